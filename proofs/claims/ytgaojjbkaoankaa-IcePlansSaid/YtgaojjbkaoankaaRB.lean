/- Several texts as one. -/
import Derived.Test.YtgaojjbkaoankaaRA
import Derived.Test.YtgaojjbkaoankaaPB
import Derived.Test.YtgaojjbkaoankaaAcQ0
import Derived.Test.YtgaojjbkaoankaaDD
import Derived.Test.YtgaojjbkaoankaaJA
/- Ice: how often each stretch is sprayed,and the water by it. -/
namespace Go.Proofs
open Go.Abs
attribute [local simp] AOp.den AOpd.ev lk cellsOf rd_new rd_new0 rd_zero rd_succ wr_new wr_new0 wr_zero wr_succ splice fillA binA scal sliceCells List.length_append argsT AV.sc scL AObj.sc resV getAll AR.get AOp.slots opdSlots opdsSlots partSlots eqAt at_new0 at_new set_new0 set_new wrap64
set_option linter.unusedSimpArgs false
set_option linter.unusedVariables false
def cK (l:List Int):Nat→Nat→Int
  | 0,_=>0
  | k+1,s=>cK l k s+if l.getD k 0=(s:Int) then 1 else 0
def cP (L:Nat→List Int):Nat→Nat→Int
  | 0,_=>0
  | h+1,s=>cP L h s+cK (L h) (L h).length s
def smF (f:Nat→Int):Nat→Int
  | 0=>0
  | n+1=>smF f n+f n
theorem c_CloneH (H:Heap) (c:Cv) (id off:Nat) (ex:Bool) (hs:rd H id off (c.hs.length * 5)=some (c.hs.flatMap Hr.av)) (hn:c.hs.length≤1000) (h1:1≤c.hs.length) :
    ACalls Try.prog F.slices_Clone_api_Hour_api_Hour [.slice id off c.hs.length 5 ex] H (fun v h'=>v=.slice H.length 0 c.hs.length 5 false∧h'=H++[.cells (c.hs.flatMap Hr.av) true]):=by
  refine acalls_of ok_slices_Clone_api_Hour_api_Hour rfl fun hcl=>?_
  unfold ac_slices_Clone_api_Hour_api_Hour zo
  simp only [argsT,Nat.zero_add,Nat.reduceAdd]
  have hid:=rd_lt hs
  have pl:=(plain_hr c).plain c.hs.length
  rw [← flat_hr] at pl
  have hle:c.hs.length * 40≤140737488355328:=by omega
  have hne:¬ c.hs.length=0:=by omega
  have hne2:¬ c.hs=[]:=by intro h;rw [h] at h1;simp at h1
  repeat (first|(with_reducible first|apply X1|apply X2|apply X3|apply X5|apply X8)|((with_reducible apply e_end);(simp;exact Rz))|((with_reducible apply O1);rfl;(simp (disch:=omega) [AOp.fx,eqvA,rd_old _ hid,hs,pl.scal,hle,hne,hne2];exact Rz);exact Rz;(focus (first|(simp;done)|omega|(simp;omega))))|((with_reducible apply W3);(simp (disch:=omega) [AOp.fx,eqvA,rd_old _ hid,hs,pl.scal,hle,hne,hne2];exact Rz)))
  exact q_post (v':=.slice H.length 0 c.hs.length 5 false) (.inr rfl) (by simp;exact Rz) (le_plain [1] _ (by simp) rfl (by simp;exact pl.o _) (by simp [sh,AV.ren])) ⟨rfl,rfl⟩
theorem c_CloneB (H:Heap) (c:Cv) (id off:Nat) (ex:Bool) (hs:rd H id off (c.bs.length * 3)=some (c.bs.flatMap Bd.av)) (hn:c.bs.length≤1000) (h1:1≤c.bs.length) :
    ACalls Try.prog F.slices_Clone_api_Bed_api_Bed [.slice id off c.bs.length 3 ex] H (fun v h'=>v=.slice H.length 0 c.bs.length 3 false∧h'=H++[.cells (c.bs.flatMap Bd.av) true]):=by
  refine acalls_of ok_slices_Clone_api_Bed_api_Bed rfl fun hcl=>?_
  unfold ac_slices_Clone_api_Bed_api_Bed zo
  simp only [argsT,Nat.zero_add,Nat.reduceAdd]
  have hid:=rd_lt hs
  have pl:=(plain_bd c).plain c.bs.length
  rw [← flat_bd] at pl
  have hle:c.bs.length * 24≤140737488355328:=by omega
  have hne:¬ c.bs.length=0:=by omega
  have hne2:¬ c.bs=[]:=by intro h;rw [h] at h1;simp at h1
  repeat (first|(with_reducible first|apply X1|apply X2|apply X3|apply X5|apply X8)|((with_reducible apply e_end);(simp;exact Rz))|((with_reducible apply O1);rfl;(simp (disch:=omega) [AOp.fx,eqvA,rd_old _ hid,hs,pl.scal,hle,hne,hne2];exact Rz);exact Rz;(focus (first|(simp;done)|omega|(simp;omega))))|((with_reducible apply W3);(simp (disch:=omega) [AOp.fx,eqvA,rd_old _ hid,hs,pl.scal,hle,hne,hne2];exact Rz)))
  exact q_post (v':=.slice H.length 0 c.bs.length 3 false) (.inr rfl) (by simp;exact Rz) (le_plain [1] _ (by simp) rfl (by simp;exact pl.o _) (by simp [sh,AV.ren])) ⟨rfl,rfl⟩
theorem c_CloneT (H:Heap) (l:List Str) (id off:Nat) (ex:Bool) (hs:rd H id off (l.length * 9)=some (l.flatMap Str.av)) (hn:l.length≤1000) (h1:1≤l.length) :
    ACalls Try.prog F.slices_Clone_api_Stretch_api_Stretch [.slice id off l.length 9 ex] H (fun v h'=>v=.slice H.length 0 l.length 9 false∧h'=H++[.cells (l.flatMap Str.av) true]):=by
  refine acalls_of ok_slices_Clone_api_Stretch_api_Stretch rfl fun hcl=>?_
  unfold ac_slices_Clone_api_Stretch_api_Stretch zo
  simp only [argsT,Nat.zero_add,Nat.reduceAdd]
  have hid:=rd_lt hs
  have pl:=(plain_str l).plain l.length
  rw [← flat_eq] at pl
  have hle:l.length * 72≤140737488355328:=by omega
  have hne:¬ l.length=0:=by omega
  have hne2:¬ l=[]:=by intro h;rw [h] at h1;simp at h1
  repeat (first|(with_reducible first|apply X1|apply X2|apply X3|apply X5|apply X8)|((with_reducible apply e_end);(simp;exact Rz))|((with_reducible apply O1);rfl;(simp (disch:=omega) [AOp.fx,eqvA,rd_old _ hid,hs,pl.scal,hle,hne,hne2];exact Rz);exact Rz;(focus (first|(simp;done)|omega|(simp;omega))))|((with_reducible apply W3);(simp (disch:=omega) [AOp.fx,eqvA,rd_old _ hid,hs,pl.scal,hle,hne,hne2];exact Rz)))
  exact q_post (v':=.slice H.length 0 l.length 9 false) (.inr rfl) (by simp;exact Rz) (le_plain [1] _ (by simp) rfl (by simp;exact pl.o _) (by simp [sh,AV.ren])) ⟨rfl,rfl⟩
def Cv.withB (c:Cv) (k:Nat) (lo hi:Int):Cv:={ c with bs:=(List.range c.bs.length).map fun j=>if j=k then ⟨lo,hi,(c.b j).sun⟩ else c.b j }
theorem withB_len {c:Cv} {k:Nat} {lo hi:Int}:(c.withB k lo hi).bs.length=c.bs.length:=by simp [Cv.withB]
theorem withB_b {c:Cv} {k:Nat} {lo hi:Int} {j:Nat} (hj:j<c.bs.length):(c.withB k lo hi).b j=if j=k then ⟨lo,hi,(c.b j).sun⟩ else c.b j:=by
  rw [Cv.b_eq (by rw [withB_len];exact hj)]
  simp [Cv.withB]
theorem withB_own {c:Cv} {k:Nat} (hk:k<c.bs.length):c.withB k (c.b k).lo (c.b k).hi=c:=by
  have:((List.range c.bs.length).map fun j=>if j=k then (⟨(c.b k).lo,(c.b k).hi,(c.b j).sun⟩:Bd) else c.b j)=c.bs:=by
    refine map_at c.bs _ fun i hi=>?_
    by_cases e:i=k
    · subst e;rw [if_pos rfl,← Cv.b_eq hi]
    · rw [if_neg e,Cv.b_eq hi]
  simp only [Cv.withB,this]
theorem put_bd {c:Cv} {k:Nat} {lo hi lo' hi':Int} (hk:k<c.bs.length):splice (avR (bdR (c.withB k lo hi)) c.bs.length) (k * 3) [.int .i64 lo',.int .i64 hi']=avR (bdR (c.withB k lo' hi')) c.bs.length:=by
  have:=(plain_bd (c.withB k lo hi)).put (plain_bd (c.withB k lo' hi')) (n:=c.bs.length) (i:=k) (c:=0) (xs:=[.int .i64 lo',.int .i64 hi']) hk (by simp) (by
    simp only [bdR,withB_b hk,if_true,Bd.av,splice];rfl) (fun j hj hne=>by simp only [bdR,withB_b hj,if_neg hne])
  rwa [Nat.add_zero] at this
theorem c_both (H:Heap) (a b x y:Int):ACalls Try.prog F.span_Both [.agg [.int .i64 a,.int .i64 b],.agg [.int .i64 x,.int .i64 y]] H (fun v h'=>v=.agg [.int .i64 (max a x),.int .i64 (min b y)]∧h'=H):=by
  refine acalls_of ok_span_Both rfl fun hcl=>?_
  unfold ac_span_Both zo
  simp only [argsT,Nat.zero_add,Nat.reduceAdd]
  have m1:(if a<x then x else a)=max a x:=by split <;> omega
  have m2:(if y<b then y else b)=min b y:=by split <;> omega
  repeat (first|(with_reducible first|apply X1|apply X2|apply X3|apply X8)|((with_reducible apply e_end);(simp;exact Rz))|((first|((with_reducible apply O1);rfl)|((with_reducible apply O2);rfl));(simp (disch:=omega) [m1,m2];exact Rz);exact Rz;(focus (first|(simp;done)|omega|(simp;omega)))))
  refine q_drop (.inr rfl) (by simp;exact Rz) (by simp) ⟨rfl,rfl⟩
theorem c_marks (H:Heap) (sl:AV) (hs:sl.sc H.length=true):ACalls Try.prog F.track_course_marks [.agg [sl]] H (fun v h'=>v=.fn (.func F.track_course_marks_1) [] [.ptr H.length 0]∧h'=H++[.cells [sl] true]):=by
  refine acalls_of ok_track_course_marks rfl fun hcl=>?_
  unfold ac_track_course_marks zo
  simp only [argsT,Nat.zero_add,Nat.reduceAdd]
  repeat (first|(with_reducible first|apply X1|apply X2|apply X3|apply X8)|((with_reducible apply e_end);(simp;exact Rz))|((with_reducible apply O1);rfl;(simp (disch:=omega);exact Rz);exact Rz;(focus (first|(simp;done)|omega|(simp;omega)))))
  refine q_stay (.inr rfl) (by simp;exact Rz) ⟨rfl,rfl⟩
def tPl (H:Heap):List (Nat × AV):=[(2,.nilslice),(3,.ptr (H.length+1) 0),(7,.fn (.func F.track_course_marks_1) [] [.ptr (H.length+2) 0])]
def plL (H:Heap):AObj:=.other (.loop (tPl H) [8,9] plA plB .ready)
def plY (H:Heap):AObj:=.other (.loop (tPl H) [8,9] plA plB .busy)
theorem y_pl0 (H:Heap) (c0 c2 c4:AObj) (i a b:Int):AYields Try.prog (H.length+3) [.int .i64 i,.agg [.int .i64 a,.int .i64 b]] (H++[c0,.cells [.nilslice] true,c2,plL H,c4])
    (fun v h'=>v=.bool true∧h'=H++[c0,.cells [.slice (H.length+5) 0 1 2 false] true,c2,plL H,c4,.cells [.int .i64 a,.int .i64 b] true]):=by
  refine y_of (t:=tPl H) (ps:=[8,9]) (a:=plA) (b:=plB) (by rw [at_new];rfl) rfl fun hcl=>?_
  unfold plA
  simp only [roundT,tPl,List.zip_cons_cons,List.zip_nil_left,List.foldl_cons,List.foldl_nil,List.zip_nil_right]
  repeat (first|(with_reducible apply X2)|((with_reducible apply e_end);(simp;exact Rz))|((first|((with_reducible apply O1);rfl)|((with_reducible apply O2);rfl));(simp (disch:=omega);exact Rz);exact Rz;(focus (first|(simp;done)|omega|(simp;omega)))))
  refine q_begin (tt:=tPl H) (by rw [at_new];exact Rz) (by rw [set_new];exact Rz) ?_
  unfold plB
  repeat (first|(with_reducible first|apply X2|apply X6|apply Y2)|((with_reducible apply e_end);(simp;exact Rz))|((first|((with_reducible apply O1);rfl)|((with_reducible apply O2);rfl));(simp (disch:=omega) [at_new0,at_new,set_new0,set_new];exact Rz);exact Rz;(focus (first|(simp;done)|omega|(simp;omega)))))
  refine q_end (tt:=tPl H) (by rw [at_new];exact Rz) (by rw [set_new];exact Rz) ?_ ⟨rfl,rfl⟩
  exact .inr <| le_to [0,1,2,3,4,7] (by simp [headIs]) (by simp [KeepAll,sh,AObj.ren,AV.ren,renL,plL,plB]) (by simp)
theorem y_pl1 (H:Heap) (c0 c2 c4:AObj) (i a b:Int) (n:Nat) (rs:List AV) (hr:Plain rs) (hn:rs.length=n * 2) (hn2:n<1000000):AYields Try.prog (H.length+3) [.int .i64 i,.agg [.int .i64 a,.int .i64 b]] (H++[c0,.cells [.slice (H.length+5) 0 n 2 false] true,c2,plL H,c4,.cells rs true])
    (fun v h'=>v=.bool true∧h'=H++[c0,.cells [.slice (H.length+6) 0 (n+1) 2 false] true,c2,plL H,c4,.dead,.cells (rs++[.int .i64 a,.int .i64 b]) true]):=by
  refine y_of (t:=tPl H) (ps:=[8,9]) (a:=plA) (b:=plB) (by rw [at_new];rfl) rfl fun hcl=>?_
  unfold plA
  simp only [roundT,tPl,List.zip_cons_cons,List.zip_nil_left,List.foldl_cons,List.foldl_nil,List.zip_nil_right]
  repeat (first|(with_reducible apply X2)|((with_reducible apply e_end);(simp;exact Rz))|((first|((with_reducible apply O1);rfl)|((with_reducible apply O2);rfl));(simp (disch:=omega);exact Rz);exact Rz;(focus (first|(simp;done)|omega|(simp;omega)))))
  refine q_begin (tt:=tPl H) (by rw [at_new];exact Rz) (by rw [set_new];exact Rz) ?_
  unfold plB
  repeat (first|(with_reducible first|apply X2|apply X6|apply Y2)|((with_reducible apply e_end);(simp;exact Rz))|((first|((with_reducible apply O1);rfl)|((with_reducible apply O2);rfl));(simp (disch:=omega) [at_new0,at_new,set_new0,set_new,hn,hr.scal,take_all hn];exact Rz);exact Rz;(focus (first|(simp;done)|omega|(simp;omega)))))
  refine q_end (tt:=tPl H) (by rw [at_new];exact Rz) (by rw [set_new];exact Rz) ?_ ⟨rfl,rfl⟩
  exact .inr <| le_to [0,1,2,3,4,5,8] (by simp [headIs]) (by simp [KeepAll,sh,AObj.ren,AV.ren,renL,plL,plB,scL_app,renL_app,hr.sc,hr.ren]) (by simp)
def plS (H:Heap) (c0:AObj) (l:List Str):Nat→Heap
  | 0=>H++[c0,.cells [.nilslice] true,c0,plL H,.cells [.int .i64 0,.int .i64 0] true]
  | n+1=>H++[c0,.cells [.slice (H.length+5) 0 (n+1) 2 false] true,c0,plL H,.cells (r2 (mLo l) (mHi l) (n+1)) true,.cells (avR (r2 (mLo l) (mHi l)) (n+1)) true]
theorem c_marks1 (H:Heap) (l:List Str) (id off:Nat) (ex:Bool) (hs:rd H id off (l.length * 9)=some (l.flatMap Str.av)) (hv:validL l) :
    ACalls Try.prog F.track_course_marks_1 [.yield (H.length+3),.ptr (H.length+2) 0] (H++[.cells [.slice id off l.length 9 ex] true,.cells [.nilslice] true,.cells [.slice id off l.length 9 ex] true,plL H])
      (fun v h'=>h'=H++[.cells [.slice id off l.length 9 ex] true,.cells [.slice (H.length+4) 0 (l.length+1) 2 false] true,.cells [.slice id off l.length 9 ex] true,plL H,.cells (avR (r2 (mLo l) (mHi l)) (l.length+1)) true]):=by
  refine acalls_of ok_track_course_marks_1 rfl fun hcl=>?_
  unfold ac_track_course_marks_1 zo
  simp only [argsT,Nat.zero_add,Nat.reduceAdd]
  have hid:=rd_lt hs
  have h12:=hv.1
  repeat (first|(with_reducible first|apply X1|apply X2|apply X6|apply X8)|((with_reducible apply e_end);(simp;exact Rz))|((first|((with_reducible apply O1);rfl)|((with_reducible apply O2);rfl));(simp (disch:=omega);exact Rz);exact Rz;(focus (first|(simp;done)|omega|(simp;omega)))))
  refine e_loop (ι:={ i:Nat // i≤l.length })
    (fun i=>[(0,.yield (H.length+3)),(1,.ptr (H.length+2) 0),(3,.ptr (H.length+4) 0),(9,.int .i64 l.length),(10,.int .i64 i.1)])
    (fun i=>plS H (.cells [.slice id off l.length 9 ex] true) l i.1) (fun i=>l.length-i.1) ⟨0,by simp⟩ ?_ ?_
  · exact .inr <| le_to [0,1,2,3,4] (by simp [headIs]) (by simp [KeepAll,sh,AObj.ren,AV.ren,renL]) (by simp [sh,AV.ren])
  · rintro⟨i,hi⟩
    dsimp only
    by_cases hlt:i<l.length
    · have hlt2:(i:Int)<l.length:=by omega
      have hx:=rd_row Str.av_length hs hlt
      have ho:=(hv.2 i hlt).2.1
      have hst:=strAt_eq hlt
      have b1:=mark_bd hv (show i≤l.length by omega)
      have b2:=mark_bd hv (show i+1≤l.length by omega)
      have e1:mLo l (i+1)=mLo l i+(strAt l i).lLo:=by simp [mLo,sumF]
      have e2:mHi l (i+1)=mHi l i+(strAt l i).lHi:=by simp [mHi,sumF]
      generalize hsi:l[i]=s at hx ho hst
      obtain⟨a1,a2,a3,a4,a5,a6,a7,a8,a9⟩:=s
      rw [hst] at e1 e2
      simp only [Str.av] at hx
      simp only [Str.ok] at ho
      have hx2:rd H id (off+i * 9+1) 2=some [.int .i64 a2,.int .i64 a3]:=by simpa using rd_sub hx (show 1+2≤9 by omega)
      cases i with
      | zero =>
        simp only [plS]
        repeat (first|(with_reducible first|apply X1|apply X2|apply X5|apply X6|apply X8)|((with_reducible apply e_end);(simp;exact Rz))|((with_reducible apply O1);rfl;(simp (disch:=omega) [hlt,hlt2];exact Rz);exact Rz;(focus (first|(simp;done)|omega|(simp;omega))))|((with_reducible apply Z9);(simp (disch:=omega) [hlt,hlt2];exact Rz)))
        (with_reducible apply e_callY);(simp;exact Rz);(simp;exact Rz);exact y_pl0 _ _ _ _ _ _ _
        rintro _ _ ⟨rfl,rfl⟩
        simp at hx2
        repeat (first|(with_reducible first|apply X5|apply X8|apply Y9)|((with_reducible apply e_end);(simp;exact Rz))|((first|((with_reducible apply O1);rfl)|((with_reducible apply P1);rfl)|((with_reducible apply P2);rfl));(simp (disch:=omega) [hlt,hlt2,rd_old _ hid,hx2];exact Rz);exact Rz;(focus (first|(simp;done)|omega|(simp;omega))))|((with_reducible apply W3);(simp (disch:=omega) [hlt,hlt2,rd_old _ hid,hx2];exact Rz)))
        (with_reducible apply d_call);(simp;exact Rz);exact c_plus _ _ _ _ _ (by omega) (by omega) (by omega) (by omega);(focus (first|(simp;done)|(simp;omega)))
        repeat (first|(with_reducible first|apply X2|apply X8|apply Y2)|((with_reducible first|apply e_end|apply d_end);(simp;exact Rz))|((first|((with_reducible apply O1);rfl)|((with_reducible apply P4);rfl));(simp (disch:=omega);exact Rz);exact Rz;(focus (first|(simp;done)|omega|(simp;omega)))))
        have f0:mLo l 0=0∧mHi l 0=0:=by simp [mLo,mHi,sumF]
        refine q_again ⟨1,by omega⟩ (by dsimp only;omega) (.inr ?_)
        simp only [plS,r2,avR_succ,avR_zero,List.nil_append,f0.1,f0.2,Nat.zero_add] at e1 e2 ⊢
        rw [e1,e2]
        exact le_to [0,1,2,3,4,5] (by simp [headIs]) (by simp [KeepAll,sh,AObj.ren,AV.ren,renL]) (by simp [sh,AV.ren])
      | succ n =>
        have hlt3:(n:Int)+1<l.length:=by omega
        simp only [plS]
        repeat (first|(with_reducible first|apply X1|apply X2|apply X5|apply X6|apply X8)|((with_reducible apply e_end);(simp;exact Rz))|((with_reducible apply O1);rfl;(simp (disch:=omega) [hlt,hlt3,r2];exact Rz);exact Rz;(focus (first|(simp;done)|omega|(simp;omega))))|((with_reducible apply Z9);(simp (disch:=omega) [hlt,hlt3,r2];exact Rz)))
        (with_reducible apply e_callY);(simp;exact Rz);(simp;exact Rz);exact y_pl1 _ _ _ _ _ _ _ _ _ ((plain_r2 _ _).plain _) ((plain_r2 _ _).length _) (by omega)
        rintro _ _ ⟨rfl,rfl⟩
        repeat (first|(with_reducible first|apply X5|apply X8|apply Y9)|((with_reducible apply e_end);(simp;exact Rz))|((first|((with_reducible apply O1);rfl)|((with_reducible apply P1);rfl)|((with_reducible apply P2);rfl));(simp (disch:=omega) [hlt,hlt3,rd_old _ hid,hx2,r2];exact Rz);exact Rz;(focus (first|(simp;done)|omega|(simp;omega))))|((with_reducible apply W3);(simp (disch:=omega) [hlt,hlt3,rd_old _ hid,hx2,r2];exact Rz)))
        (with_reducible apply d_call);(simp;exact Rz);exact c_plus _ _ _ _ _ (by omega) (by omega) (by omega) (by omega);(focus (first|(simp;done)|(simp;omega)))
        repeat (first|(with_reducible first|apply X2|apply X8|apply Y2)|((with_reducible first|apply e_end|apply d_end);(simp;exact Rz))|((first|((with_reducible apply O1);rfl)|((with_reducible apply P4);rfl));(simp (disch:=omega);exact Rz);exact Rz;(focus (first|(simp;done)|omega|(simp;omega)))))
        have e3:avR (r2 (mLo l) (mHi l)) (n+1)++[.int .i64 (mLo l (n+1)),.int .i64 (mHi l (n+1))]=avR (r2 (mLo l) (mHi l)) (n+1+1):=by rw [avR_succ _ (n+1)];rfl
        have e4:r2 (mLo l) (mHi l) (n+1+1)=[.int .i64 (mLo l (n+1)+a2),.int .i64 (mHi l (n+1)+a3)]:=by simp [r2,e1,e2]
        have pl:=(plain_r2 (mLo l) (mHi l)).plain (n+1+1)
        rw [e3]
        refine q_again ⟨n+1+1,by omega⟩ (by dsimp only;omega) (.inr ?_)
        simp only [plS,e4]
        exact le_to [0,1,2,3,4,6] (by simp [headIs]) (by simp [KeepAll,sh,AObj.ren,AV.ren,renL,pl.sc,pl.ren]) (by simp [sh,AV.ren])
    · have hlt2:¬ (i:Int)<l.length:=by omega
      obtain⟨n,hn⟩:∃ n,l.length=n+1:=⟨l.length-1,by omega⟩
      obtain rfl:i=n+1:=by omega
      have hlt3:¬ (n:Int)+1<l.length:=by omega
      simp only [plS]
      repeat (first|(with_reducible first|apply X1|apply X2|apply X4|apply X8|apply Y1|apply Y4|apply Y6)|((with_reducible apply e_end);(simp;exact Rz))|((with_reducible apply O1);rfl;(simp (disch:=omega) [hlt,hlt3,r2];exact Rz);exact Rz;(focus (first|(simp;done)|omega|(simp;omega))))|((with_reducible apply W3);(simp (disch:=omega) [hlt,hlt3,r2];exact Rz)))
      (with_reducible apply e_callY);(simp;exact Rz);(simp;exact Rz);exact y_pl1 _ _ _ _ _ _ _ _ _ ((plain_r2 _ _).plain _) ((plain_r2 _ _).length _) (by omega)
      rintro _ _ ⟨rfl,rfl⟩
      repeat ((with_reducible apply e_end);(simp;exact Rz))
      have e3:avR (r2 (mLo l) (mHi l)) (n+1)++[.int .i64 (mLo l (n+1)),.int .i64 (mHi l (n+1))]=avR (r2 (mLo l) (mHi l)) (n+1+1):=by rw [avR_succ _ (n+1)];rfl
      have pl:=(plain_r2 (mLo l) (mHi l)).plain (n+1+1)
      rw [e3,hn]
      refine q_post (v':=.tuple []) (.inl rfl) (by simp;exact Rz) (le_to [0,1,2,3,6] (by simp [headIs]) (by simp [KeepAll,sh,AObj.ren,AV.ren,renL,pl.sc,pl.ren]) (by simp [AV.ren,renL])) rfl
theorem c_places (H:Heap) (l:List Str) (id off:Nat) (ex:Bool) (hs:rd H id off (l.length * 9)=some (l.flatMap Str.av)) (hv:validL l) :
    ACalls Try.prog F.track_course_places [.agg [.slice id off l.length 9 ex]] H (fun v h'=>v=.slice H.length 0 (l.length+1) 2 false∧h'=H++[.cells (avR (r2 (mLo l) (mHi l)) (l.length+1)) true]):=by
  refine acalls_of ok_track_course_places rfl fun hcl=>?_
  unfold ac_track_course_places zo
  simp only [argsT,Nat.zero_add,Nat.reduceAdd]
  have hid:=rd_lt hs
  repeat (first|(with_reducible first|apply X1|apply X2|apply X8)|((with_reducible apply e_end);(simp;exact Rz))|((with_reducible apply O1);rfl;(simp (disch:=omega);exact Rz);exact Rz;(focus (first|(simp;done)|omega|(simp;omega)))))
  (with_reducible apply e_call);(simp;exact Rz);exact c_marks _ _ (by simp;omega)
  rintro _ _ ⟨rfl,rfl⟩
  repeat (first|(with_reducible first|apply X6|apply X8)|((with_reducible apply e_end);(simp;exact Rz)))
  refine e_range (R:=fun v h'=>h'=H++[.cells [.slice id off l.length 9 ex] true,.cells [.slice (H.length+4) 0 (l.length+1) 2 false] true,.cells [.slice id off l.length 9 ex] true,plL H,.cells (avR (r2 (mLo l) (mHi l)) (l.length+1)) true]) (by simp;exact Rz) (by simp [tSc]) (by simp;exact Rz) ?_ ?_
  · have:=c_marks1 H l id off ex hs hv
    simp only [plL,tPl,plA,plB] at this ⊢
    simpa using this
  · rintro _ _ rfl
    refine range_end (tt:=tPl H) (ps:=[8,9]) (a:=plA) (b:=plB) (by simp [at_new];exact Rz) (by simp [set_new];exact Rz) ?_
    repeat (first|(with_reducible first|apply X1|apply X2|apply X3|apply X8|apply Y2)|((with_reducible apply e_end);(simp;exact Rz))|((with_reducible apply O1);rfl;(simp (disch:=omega);exact Rz);exact Rz;(focus (first|(simp;done)|omega|(simp;omega)))))
    exact q_post (v':=.slice H.length 0 (l.length+1) 2 false) (.inr rfl) (by simp;exact Rz) (le_plain [4] _ (by simp) rfl (by simp;exact ((plain_r2 _ _).plain _).o _) (by simp [sh,AV.ren])) ⟨rfl,rfl⟩
theorem c_pickSpan (H:Heap) (sel:Nat→Bool) (f g:Nat→Int) (n id aid mid:Nat) (own ex:Bool) (q:FuncId) (hh:H[id]?=some (.cells (avR (r2 f g) n) own)) (hn:n≤1000) (ha:aid<H.length) (hm:mid<H.length)
    (hq:∀ (G:Heap) (i:Nat),i<n→ACalls Try.prog q [.int .i64 i,.agg [.int .i64 (f i),.int .i64 (g i)],.ptr aid 0,.ptr mid 0] (H++G) (fun v h'=>v=.bool (sel i)∧h'=H++G)) :
    ACalls Try.prog F.list_Pick_api_Span [.slice id 0 n 2 ex,.fn (.func q) [] [.ptr aid 0,.ptr mid 0]] H (fun v h'=>v=pV H.length (selF sel n)∧h'=pH H (selF sel n)):=by
  refine acalls_of ok_list_Pick_api_Span rfl fun hcl=>?_
  unfold ac_list_Pick_api_Span zo
  simp only [argsT,Nat.zero_add,Nat.reduceAdd]
  have hid:id<H.length:=(List.getElem?_eq_some_iff.1 hh).1
  repeat (first|(with_reducible first|apply X1|apply X2|apply X6|apply X8)|((with_reducible apply e_end);(simp;exact Rz))|((with_reducible apply O1);rfl;(simp (disch:=omega);exact Rz);exact Rz;(focus (first|(simp;done)|omega|(simp;omega)))))
  refine e_loop (ι:={ k:Nat // k≤n })
    (fun k=>[(1,.fn (.func q) [] [.ptr aid 0,.ptr mid 0]),(5,pV H.length (selF sel k.1)),(8,.slice id 0 n 2 ex),(9,.int .i64 n),(10,.int .i64 k.1)])
    (fun k=>pH H (selF sel k.1)) (fun k=>n-k.1) ⟨0,by simp⟩ ?_ ?_
  · exact .inr <| le_id (by simp [hid,ha,hm,selF,pV])
  · rintro⟨k,hk⟩
    dsimp only
    by_cases hlt:k<n
    · have hlt2:(k:Int)<n:=by omega
      have hx:rd H id (k * 2) 2=some [.int .i64 (f k),.int .i64 (g k)]:=(plain_r2 f g).rd hh hlt
      have hs:=selF_succ sel k
      have hl:=selF_len sel k
      by_cases hnil:selF sel k=[]
      · rw [hnil] at hs ⊢
        simp only [pV,pH,if_true]
        repeat (first|(with_reducible first|apply X1|apply X2|apply X5|apply X6|apply X8)|((with_reducible apply e_end);(simp;exact Rz))|((first|((with_reducible apply O1);rfl)|((with_reducible apply O2);rfl));(simp (disch:=omega) [hlt,hlt2,rd_old _ hid,hx];exact Rz);exact Rz;(focus (first|(simp;done)|omega|(simp;omega))))|((with_reducible apply Z9);(simp (disch:=omega) [hlt,hlt2,rd_old _ hid,hx];exact Rz)))
        (with_reducible apply e_callV);(simp;exact Rz);(simp;exact Rz);exact hq _ k hlt
        rintro _ _ ⟨rfl,rfl⟩
        cases hb:sel k with
        | true =>
          rw [hb] at hs
          simp only [if_true,List.nil_append] at hs
          repeat (first|(with_reducible first|apply X2|apply X8|apply Y2)|((with_reducible apply e_end);(simp;exact Rz))|((with_reducible apply O1);rfl;(simp (disch:=omega);exact Rz);exact Rz;(focus (first|(simp;done)|omega|(simp;omega))))|((with_reducible apply Z9);(simp (disch:=omega);exact Rz)))
          refine q_again ⟨k+1,by omega⟩ (by dsimp only;omega) (.inr ?_)
          dsimp only
          rw [hs]
          exact le_plain [2] _ (by simp) rfl (by simp;exact (plainK _).o _) (by simp [sh,hid,ha,hm,AV.ren,renL];omega)
        | false =>
          rw [hb] at hs
          simp only [Bool.false_eq_true,if_false] at hs
          repeat (first|(with_reducible first|apply X2|apply X5|apply X8|apply Y2)|((with_reducible apply e_end);(simp;exact Rz))|((with_reducible apply O1);rfl;(simp (disch:=omega);exact Rz);exact Rz;(focus (first|(simp;done)|omega|(simp;omega))))|((with_reducible apply W3);(simp (disch:=omega);exact Rz)))
          refine q_again ⟨k+1,by omega⟩ (by dsimp only;omega) (.inr ?_)
          dsimp only
          rw [hs]
          exact le_drop (by simp [hid,ha,hm])
      · generalize selF sel k=ks at hs hl hnil
        have pk:=plainK ks
        have hlk:=avK_length ks
        simp only [pV,pH,hnil,if_false]
        repeat (first|(with_reducible first|apply X1|apply X2|apply X5|apply X6|apply X8)|((with_reducible apply e_end);(simp;exact Rz))|((first|((with_reducible apply O1);rfl)|((with_reducible apply O2);rfl));(simp (disch:=omega) [hlt,hlt2,rd_old _ hid,hx];exact Rz);exact Rz;(focus (first|(simp;done)|omega|(simp;omega))))|((with_reducible apply Z9);(simp (disch:=omega) [hlt,hlt2,rd_old _ hid,hx];exact Rz)))
        (with_reducible apply e_callV);(simp;exact Rz);(simp;exact Rz);exact hq _ k hlt
        rintro _ _ ⟨rfl,rfl⟩
        cases hb:sel k with
        | true =>
          rw [hb] at hs
          simp only [if_true] at hs
          repeat (first|(with_reducible first|apply X2|apply X8|apply Y2)|((with_reducible apply e_end);(simp;exact Rz))|((with_reducible apply O1);rfl;(simp (disch:=omega) [hlk,take_all hlk,pk.scal];exact Rz);exact Rz;(focus (first|(simp;done)|omega|(simp;omega))))|((with_reducible apply Z9);(simp (disch:=omega) [hlk,take_all hlk,pk.scal];exact Rz)))
          refine q_again ⟨k+1,by omega⟩ (by dsimp only;omega) (.inr ?_)
          dsimp only
          rw [hs,avK_app]
          have hne:¬ (ks++[k]=[]):=by simp
          simp only [pV,pH,hne,if_false]
          exact le_plain [3] _ (by simp) rfl (by simp;exact (plainK _).o _) (by simp [sh,hid,ha,hm,AV.ren,renL];omega)
        | false =>
          rw [hb] at hs
          simp only [Bool.false_eq_true,if_false] at hs
          repeat (first|(with_reducible first|apply X2|apply X5|apply X8|apply Y2)|((with_reducible apply e_end);(simp;exact Rz))|((with_reducible apply O1);rfl;(simp (disch:=omega);exact Rz);exact Rz;(focus (first|(simp;done)|omega|(simp;omega))))|((with_reducible apply W3);(simp (disch:=omega);exact Rz)))
          refine q_again ⟨k+1,by omega⟩ (by dsimp only;omega) (.inr ?_)
          dsimp only
          rw [hs]
          simp only [pV,pH,hnil,if_false]
          exact le_take (G:=[_]) (by simp [pk.sc]) (by simp [hid,ha,hm,Red];omega)
    · have hlt2:¬ (k:Int)<n:=by omega
      obtain rfl:k=n:=by omega
      repeat (first|(with_reducible first|apply X1|apply X2|apply X3|apply X4|apply X8|apply Y1|apply Y4|apply Y6)|((with_reducible apply e_end);(simp;exact Rz))|((with_reducible apply O1);rfl;(simp (disch:=omega) [hlt,hlt2];exact Rz);exact Rz;(focus (first|(simp;done)|omega|(simp;omega))))|((with_reducible apply W3);(simp (disch:=omega) [hlt,hlt2];exact Rz)))
      exact q_stay (.inr rfl) (by simp;exact Rz) ⟨rfl,rfl⟩
theorem c_Place1 (H:Heap) (l:List Str) (at_:Int) (i sid aid mid:Nat) (own ex:Bool) (hh:H[sid]?=some (.cells (avR (r2 (mLo l) (mHi l)) (l.length+1)) own)) (ha:rd H aid 0 1=some [.int .i64 at_])
    (hm:rd H mid 0 1=some [.slice sid 0 (l.length+1) 2 ex]) (hi:i<l.length+1) (hn:l.length≤1000) :
    ACalls Try.prog F.track_Place_1 [.int .i64 i,.agg [.int .i64 (mLo l i),.int .i64 (mHi l i)],.ptr aid 0,.ptr mid 0] H (fun v h'=>v=.bool (plSel l at_ i)∧h'=H):=by
  refine acalls_of ok_track_Place_1 rfl fun hcl=>?_
  unfold ac_track_Place_1 zo
  simp only [argsT,Nat.zero_add,Nat.reduceAdd]
  have hsid:sid<H.length:=(List.getElem?_eq_some_iff.1 hh).1
  have haid:=rd_lt ha
  have hmid:=rd_lt hm
  by_cases h1:mLo l i≤at_
  · by_cases h2:i=l.length
    · subst h2
      repeat (first|(with_reducible first|apply X1|apply X2|apply X3|apply X8|apply Y9)|((with_reducible first|apply e_end|apply d_end);(simp;exact Rz))|((first|((with_reducible apply O1);rfl)|((with_reducible apply P1);rfl)|((with_reducible apply P2);rfl));(simp (disch:=omega) [h1,rd_old _ haid,rd_old _ hmid,ha,hm];exact Rz);exact Rz;(focus (first|(simp;done)|omega|(simp;omega))))|((with_reducible apply Z8);(simp (disch:=omega) [h1,rd_old _ haid,rd_old _ hmid,ha,hm];exact Rz))|((with_reducible apply Z6);(simp (disch:=omega) [h1,rd_old _ haid,rd_old _ hmid,ha,hm];exact Rz)))
      exact q_drop (.inr rfl) (by simp;exact Rz) (by simp) ⟨by simp [plSel,h1],rfl⟩
    · have h3:¬ ((i:Int)+1=(l.length:Int)+1):=by omega
      have h4:¬ ((i:Int)=l.length):=by omega
      have h5:i<l.length:=by omega
      have hz:((i:Int)+1).toNat=i+1:=by omega
      have hx:rd H sid ((i+1) * 2+1) 1=some [.int .i64 (mHi l (i+1))]:=by
        have:=rd_sub ((plain_r2 (mLo l) (mHi l)).rd hh (show i+1<l.length+1 by omega)) (show 1+1≤2 by omega)
        simpa [r2] using this
      repeat (first|(with_reducible first|apply X1|apply X2|apply X3|apply X8|apply Y9)|((with_reducible first|apply e_end|apply d_end);(simp;exact Rz))|((first|((with_reducible apply O1);rfl)|((with_reducible apply P1);rfl)|((with_reducible apply P2);rfl));(simp (disch:=omega) [h1,h2,h3,h4,h5,hz,rd_old _ haid,rd_old _ hmid,rd_old _ hsid,ha,hm,hx];exact Rz);exact Rz;(focus (first|(simp;done)|omega|(simp;omega))))|((with_reducible apply Z8);(simp (disch:=omega) [h1,h2,h3,h4,h5,hz,rd_old _ haid,rd_old _ hmid,rd_old _ hsid,ha,hm,hx];exact Rz)))
      exact q_drop (.inr rfl) (by simp;exact Rz) (by simp) ⟨by simp [plSel,h1,h2],rfl⟩
  · repeat (first|(with_reducible first|apply X1|apply X2|apply X3|apply X8|apply Y9)|((with_reducible first|apply e_end|apply d_end);(simp;exact Rz))|((first|((with_reducible apply O1);rfl)|((with_reducible apply P1);rfl)|((with_reducible apply P2);rfl));(simp (disch:=omega) [h1,rd_old _ haid,rd_old _ hmid,ha,hm];exact Rz);exact Rz;(focus (first|(simp;done)|omega|(simp;omega))))|((with_reducible apply Z5);(simp (disch:=omega) [h1,rd_old _ haid,rd_old _ hmid,ha,hm];exact Rz))|((with_reducible apply W2);(simp (disch:=omega) [h1,rd_old _ haid,rd_old _ hmid,ha,hm];exact Rz)))
    exact q_drop (.inr rfl) (by simp;exact Rz) (by simp) ⟨by simp [plSel,h1],rfl⟩
theorem c_Place (H:Heap) (l:List Str) (at_:Int) (id off:Nat) (ex:Bool) (hs:rd H id off (l.length * 9)=some (l.flatMap Str.av)) (hv:validL l) (h0:0≤at_) (h1:at_≤360000) :
    ACalls Try.prog F.track_Place [.agg [.slice id off l.length 9 ex],.int .i64 at_] H (fun v h'=>v=.tuple [.slice H.length 0 (plL_ l at_).length 1 false,.int .i64 0]∧h'=H++[.cells (avK (plL_ l at_)) true]):=by
  refine acalls_of ok_track_Place rfl fun hcl=>?_
  unfold ac_track_Place zo
  simp only [argsT,Nat.zero_add,Nat.reduceAdd]
  have hid:=rd_lt hs
  have h12:=hv.1
  repeat (first|(with_reducible first|apply X1|apply X2|apply X8)|((with_reducible apply e_end);(simp;exact Rz))|((with_reducible apply O1);rfl;(simp (disch:=omega);exact Rz);exact Rz;(focus (first|(simp;done)|omega|(simp;omega)))))
  (with_reducible apply e_call);(simp;exact Rz);exact c_Check _ l id off ex (by rw [rd_old _ hid];exact hs) (by omega)
  rintro _ _ ⟨rfl,e,rfl,he⟩
  obtain rfl:e=0:=by
    rcases he with h|h
    · exact h.2
    · exact absurd hv h.1
  repeat (first|(with_reducible first|apply X1|apply X2|apply X5|apply X8|apply Y9)|((with_reducible apply e_end);(simp;exact Rz))|((with_reducible apply O1);rfl;(simp (disch:=omega);exact Rz);exact Rz;(focus (first|(simp;done)|omega|(simp;omega))))|((with_reducible apply W3);(simp (disch:=omega);exact Rz)))
  (with_reducible apply d_call);(simp;exact Rz);exact c_upto _ _;(focus (first|(simp;done)|(simp;omega)))
  repeat (first|((with_reducible apply P3);rfl;(simp (disch:=omega);exact Rz);exact Rz;(focus (first|(simp;done)|omega|(simp;omega))))|((with_reducible apply P6);rfl;(simp (disch:=omega);exact Rz);exact Rz;(focus (first|(simp [pr];done)|(simp [pr];omega)))))
  (with_reducible apply d_call);(simp;exact Rz);exact c_within _ 0 360000 [at_] (H.length+2) 0 true (by simp) (by simp);(focus (first|(simp;done)|(simp;omega)))
  repeat (first|(with_reducible first|apply X1|apply X2|apply X5|apply X8)|((with_reducible apply d_end);(simp;exact Rz))|((first|((with_reducible apply O1);rfl)|((with_reducible apply P1);rfl));(simp (disch:=omega) [h0,h1];exact Rz);exact Rz;(focus (first|(simp;done)|omega|(simp;omega))))|((with_reducible apply W3);(simp (disch:=omega) [h0,h1];exact Rz)))
  (with_reducible apply e_call);(simp;exact Rz);exact c_places _ l id off ex (by rw [rd_old _ hid];simpa using hs) hv
  rintro _ _ ⟨rfl,rfl⟩
  repeat (first|(with_reducible first|apply X1|apply X2|apply X8)|((with_reducible apply e_end);(simp;exact Rz))|((first|((with_reducible apply O1);rfl)|((with_reducible apply O2);rfl));(simp (disch:=omega);exact Rz);exact Rz;(focus (first|(simp;done)|omega|(simp;omega)))))
  (with_reducible apply e_call);(simp;exact Rz);exact c_pickSpan _ (plSel l at_) (mLo l) (mHi l) (l.length+1) (H.length+3) (H.length+1) (H.length+4) true _ F.track_Place_1 (by simp) (by omega) (by simp) (by simp) (fun G i hi=>c_Place1 _ l at_ i (H.length+3) (H.length+1) (H.length+4) true false (by simp) (by simp) (by simp) hi (by omega))
  have hne:=plL_ne hv h0
  have e:selF (plSel l at_) (l.length+1)=plL_ l at_:=rfl
  rw [e]
  simp only [pV,pH,hne,if_false]
  rintro _ _ ⟨rfl,rfl⟩
  repeat (first|(with_reducible first|apply X3|apply X8)|((with_reducible apply e_end);(simp;exact Rz))|((with_reducible apply O1);rfl;(simp (disch:=omega);exact Rz);exact Rz;(focus (first|(simp;done)|omega|(simp;omega)))))
  exact q_post (v':=.tuple [.slice H.length 0 (plL_ l at_).length 1 false,.int .i64 0]) (.inr rfl) (by simp;exact Rz) (le_plain [5] _ (by simp) rfl (by simp;exact (plainK _).o _) (by simp [sh,AV.ren,renL])) ⟨rfl,rfl⟩
theorem fall_bd {l:List Str} (hv:validL l) {a n:Nat} (h:a+n≤l.length):0≤sumF (fun j=>(strAt l j).fLo) a n∧sumF (fun j=>(strAt l j).fLo) a n≤sumF (fun j=>(strAt l j).fHi) a n∧sumF (fun j=>(strAt l j).fHi) a n≤360000:=by
  have ok:∀ j,j<n→(strAt l (a+j)).ok:=fun j hj=>by rw [strAt_eq (by omega)];exact (hv.2 (a+j) (by omega)).2.1
  have h1:=sumF_bd (f:=fun j=>(strAt l j).fLo) (a:=a) (c:=30000) (n:=n) fun j hj=>by
    have:=(ok j hj).2.2.2.1;omega
  have h2:=sumF_bd (f:=fun j=>(strAt l j).fHi) (a:=a) (c:=30000) (n:=n) fun j hj=>by
    have:=(ok j hj).2.2.2.1;omega
  have h3:=sumF_le (f:=fun j=>(strAt l j).fLo) (g:=fun j=>(strAt l j).fHi) (a:=a) (n:=n) fun j hj=>by
    have:=(ok j hj).2.2.2.1;omega
  have:=hv.1.2
  omega
theorem long_bd {l:List Str} (hv:validL l) {a n:Nat} (h:a+n≤l.length):0≤sumF (fun j=>(strAt l j).lLo) a n∧sumF (fun j=>(strAt l j).lLo) a n≤sumF (fun j=>(strAt l j).lHi) a n∧sumF (fun j=>(strAt l j).lHi) a n≤360000:=by
  have ok:∀ j,j<n→(strAt l (a+j)).ok:=fun j hj=>by rw [strAt_eq (by omega)];exact (hv.2 (a+j) (by omega)).2.1
  have h1:=sumF_bd (f:=fun j=>(strAt l j).lLo) (a:=a) (c:=30000) (n:=n) fun j hj=>by
    have:=(ok j hj).2.2.1;omega
  have h2:=sumF_bd (f:=fun j=>(strAt l j).lHi) (a:=a) (c:=30000) (n:=n) fun j hj=>by
    have:=(ok j hj).2.2.1;omega
  have h3:=sumF_le (f:=fun j=>(strAt l j).lLo) (g:=fun j=>(strAt l j).lHi) (a:=a) (n:=n) fun j hj=>by
    have:=(ok j hj).2.2.1;omega
  have:=hv.1.2
  omega
theorem c_rdrop (H:Heap) (l:List Str) (id off:Nat) (ex:Bool) (a b:Nat) (hs:rd H id off (l.length * 9)=some (l.flatMap Str.av)) (hv:validL l) (hab:a≤b) (hb:b≤l.length) :
    ACalls Try.prog F.ref01_drop [.agg [.slice id off l.length 9 ex],.int .i64 a,.int .i64 b] H
      (fun v h'=>v=.tuple [.agg [.int .i64 (sumF (fun j=>(strAt l j).lLo) a (b-a)),.int .i64 (sumF (fun j=>(strAt l j).lHi) a (b-a))],.agg [.int .i64 (sumF (fun j=>(strAt l j).fLo) a (b-a)),.int .i64 (sumF (fun j=>(strAt l j).fHi) a (b-a))]]∧h'=H):=by
  refine acalls_of ok_ref01_drop rfl fun hcl=>?_
  unfold ac_ref01_drop zo
  simp only [argsT,Nat.zero_add,Nat.reduceAdd]
  have hid:=rd_lt hs
  have h12:=hv.1
  repeat (first|(with_reducible first|apply X1|apply X2|apply X6|apply X8)|((with_reducible apply e_end);(simp;exact Rz))|((with_reducible apply O1);rfl;(simp (disch:=omega);exact Rz);exact Rz;(focus (first|(simp;done)|omega|(simp;omega)))))
  refine e_loop (ι:={ i:Nat // i≤b-a })
    (fun i=>[(2,.int .i64 b),(3,.ptr H.length 0),(6,.ptr (H.length+1) 0),(7,.ptr (H.length+2) 0),(8,.ptr (H.length+3) 0),(9,.ptr (H.length+4) 0),(10,.int .i64 ((a+i.1:Nat):Int))])
    (fun i=>H++[.cells [.slice id off l.length 9 ex] true,.cells [.int .i64 0,.int .i64 0] true,.cells [.int .i64 0,.int .i64 0] true,
      .cells [.int .i64 (sumF (fun j=>(strAt l j).lLo) a i.1),.int .i64 (sumF (fun j=>(strAt l j).lHi) a i.1)] true,.cells [.int .i64 (sumF (fun j=>(strAt l j).fLo) a i.1),.int .i64 (sumF (fun j=>(strAt l j).fHi) a i.1)] true]) (fun i=>b-a-i.1) ⟨0,by simp⟩ ?_ ?_
  · exact .inr <| le_same (by simp;omega) (by simp [Red,sumF])
  · rintro⟨i,hi⟩
    dsimp only
    by_cases hlt:i<b-a
    · have hlt2:(a:Int)+i<b:=by omega
      have hx:=rd_row Str.av_length hs (show a+i<l.length by omega)
      have ho:=(hv.2 (a+i) (by omega)).2.1
      have hst:=strAt_eq (show a+i<l.length by omega)
      have b1:=long_bd hv (show a+i≤l.length by omega)
      have b2:=fall_bd hv (show a+i≤l.length by omega)
      have e1:sumF (fun j=>(strAt l j).lLo) a (i+1)=sumF (fun j=>(strAt l j).lLo) a i+l[a+i].lLo:=by simp [sumF,hst]
      have e2:sumF (fun j=>(strAt l j).lHi) a (i+1)=sumF (fun j=>(strAt l j).lHi) a i+l[a+i].lHi:=by simp [sumF,hst]
      have e3:sumF (fun j=>(strAt l j).fLo) a (i+1)=sumF (fun j=>(strAt l j).fLo) a i+l[a+i].fLo:=by simp [sumF,hst]
      have e4:sumF (fun j=>(strAt l j).fHi) a (i+1)=sumF (fun j=>(strAt l j).fHi) a i+l[a+i].fHi:=by simp [sumF,hst]
      have hai:a+i<l.length:=by omega
      have hai2:(a:Int)+i<l.length:=by omega
      have hz:((a:Int)+i).toNat=a+i:=by omega
      generalize l[a+i]=s at hx ho e1 e2 e3 e4
      obtain⟨a1,a2,a3,a4,a5,a6,a7,a8,a9⟩:=s
      simp only [Str.av] at hx
      simp only [Str.ok] at ho
      simp only at e1 e2 e3 e4
      repeat (first|(with_reducible first|apply X1|apply X2|apply X5|apply X6|apply X8|apply Y2)|((with_reducible apply e_end);(simp;exact Rz))|((first|((with_reducible apply O1);rfl)|((with_reducible apply O2);rfl));(simp (disch:=omega) [hlt,hlt2,hai,hai2,hz,rd_old _ hid,hx];exact Rz);exact Rz;(focus (first|(simp;done)|omega|(simp;omega))))|((with_reducible apply Z9);(simp (disch:=omega) [hlt,hlt2,hai,hai2,hz,rd_old _ hid,hx];exact Rz)))
      refine q_again ⟨i+1,by omega⟩ (by dsimp only;omega) (.inr ?_)
      simp only [e1,e2,e3,e4]
      exact le_to0 [0,1,2,3,4] (by simp) (by simp [KeepAll,sh,AObj.ren,AV.ren,renL,hid];omega) (by simp [sh,AV.ren];omega)
    · have hlt2:¬ ((a:Int)+i<b):=by omega
      have e:i=b-a:=by omega
      repeat (first|(with_reducible first|apply X1|apply X2|apply X4|apply X8|apply Y1|apply Y4|apply Y6|apply Y9)|((with_reducible apply e_end);(simp;exact Rz))|((first|((with_reducible apply O1);rfl)|((with_reducible apply P2);rfl));(simp (disch:=omega) [hlt2,hlt];exact Rz);exact Rz;(focus (first|(simp;done)|omega|(simp;omega))))|((with_reducible apply W3);(simp (disch:=omega) [hlt2,hlt];exact Rz)))
      (with_reducible apply d_do_);rfl;rfl;(simp (disch:=omega);exact Rz);exact Rz
      · (first|(simp;done)|omega|(simp;omega))
      · (first|(simp;done)|omega|(simp;omega))
      · (first|(simp;done)|omega|(simp;omega))
      · simp [recheck,pr,AOp.sem]
      simp only [St.put]
      repeat (first|(with_reducible first|apply X3|apply X8)|((with_reducible apply d_end);(simp;exact Rz))|((with_reducible apply P4);rfl;(simp (disch:=omega);exact Rz);exact Rz;(focus (first|(simp;done)|omega|(simp;omega)))))
      refine q_drop (.inr rfl) (by simp;exact Rz) (by simp) ⟨by rw [e],rfl⟩
theorem c_rmarks (H:Heap) (l:List Str) (id off:Nat) (ex:Bool) (hs:rd H id off (l.length * 9)=some (l.flatMap Str.av)) (hv:validL l) :
    ACalls Try.prog F.ref01_marks [.agg [.slice id off l.length 9 ex]] H (fun v h'=>v=.slice H.length 0 (l.length+1) 2 false∧h'=H++[.cells (avR (r2 (mLo l) (mHi l)) (l.length+1)) true]):=by
  refine acalls_of ok_ref01_marks rfl fun hcl=>?_
  unfold ac_ref01_marks zo
  simp only [argsT,Nat.zero_add,Nat.reduceAdd]
  have hid:=rd_lt hs
  have h12:=hv.1
  repeat (first|(with_reducible first|apply X1|apply X2|apply X6|apply X8)|((with_reducible apply e_end);(simp;exact Rz))|((with_reducible apply O1);rfl;(simp (disch:=omega);exact Rz);exact Rz;(focus (first|(simp;done)|omega|(simp;omega)))))
  refine e_loop (ι:={ i:Nat // i≤l.length+1 })
    (fun i=>[(1,.ptr H.length 0),(3,if i.1=0 then .nilslice else .slice (H.length+1) 0 i.1 2 false),(4,.int .i64 i.1)])
    (fun i=>H++(.cells [.slice id off l.length 9 ex] true :: if i.1=0 then [] else [.cells (avR (r2 (mLo l) (mHi l)) i.1) true])) (fun i=>l.length+1-i.1) ⟨0,by simp⟩ ?_ ?_
  · exact .inr <| le_same (by simp;omega) (by simp [Red])
  · rintro⟨i,hi⟩
    dsimp only
    by_cases hlt:i<l.length+1
    · have hlt2:(i:Int)≤l.length:=by omega
      have hlt3:i≤l.length:=by omega
      by_cases h0:i=0
      · subst h0
        simp only [if_true]
        repeat (first|(with_reducible first|apply X1|apply X2|apply X5|apply X6|apply X8)|((with_reducible apply e_end);(simp;exact Rz))|((with_reducible apply O1);rfl;(simp (disch:=omega) [hlt3];exact Rz);exact Rz;(focus (first|(simp;done)|omega|(simp;omega))))|((with_reducible apply Z9);(simp (disch:=omega) [hlt3];exact Rz)))
        (with_reducible apply e_call);(simp;exact Rz);exact c_rdrop _ l id off ex 0 0 (by rw [rd_old _ hid];exact hs) hv (by omega) (by omega)
        rintro _ _ ⟨rfl,rfl⟩
        repeat (first|(with_reducible first|apply X2|apply X8|apply Y2)|((with_reducible apply e_end);(simp;exact Rz))|((first|((with_reducible apply O1);rfl)|((with_reducible apply O2);rfl));(simp (disch:=omega);exact Rz);exact Rz;(focus (first|(simp;done)|omega|(simp;omega)))))
        refine q_again ⟨1,by omega⟩ (by dsimp only;omega) (.inr ?_)
        have e:avR (r2 (mLo l) (mHi l)) 1=[.int .i64 (sumF (fun j=>(strAt l j).lLo) 0 0),.int .i64 (sumF (fun j=>(strAt l j).lHi) 0 0)]:=by rw [avR_succ,avR_zero];rfl
        simp only [Nat.one_ne_zero,if_false,e]
        exact le_to0 [0,4] (by simp) (by simp [KeepAll,sh,AObj.ren,AV.ren,renL,hid];omega) (by simp [sh,AV.ren])
      · have pl:=(plain_r2 (mLo l) (mHi l)).plain i
        have ln:=(plain_r2 (mLo l) (mHi l)).length i
        simp only [h0,if_false]
        repeat (first|(with_reducible first|apply X1|apply X2|apply X5|apply X6|apply X8)|((with_reducible apply e_end);(simp;exact Rz))|((with_reducible apply O1);rfl;(simp (disch:=omega) [hlt2,hlt3];exact Rz);exact Rz;(focus (first|(simp;done)|omega|(simp;omega))))|((with_reducible apply Z9);(simp (disch:=omega) [hlt2,hlt3];exact Rz)))
        (with_reducible apply e_call);(simp;exact Rz);exact c_rdrop _ l id off ex 0 i (by rw [rd_old _ hid];exact hs) hv (by omega) (by omega)
        rintro _ _ ⟨rfl,rfl⟩
        repeat (first|(with_reducible first|apply X2|apply X8|apply Y2)|((with_reducible apply e_end);(simp;exact Rz))|((first|((with_reducible apply O1);rfl)|((with_reducible apply O2);rfl));(simp (disch:=omega) [pl.scal,ln,take_all ln];exact Rz);exact Rz;(focus (first|(simp;done)|omega|(simp;omega)))))
        refine q_again ⟨i+1,by omega⟩ (by dsimp only;omega) (.inr ?_)
        have e:avR (r2 (mLo l) (mHi l)) i++[.int .i64 (sumF (fun j=>(strAt l j).lLo) 0 i),.int .i64 (sumF (fun j=>(strAt l j).lHi) 0 i)]=avR (r2 (mLo l) (mHi l)) (i+1):=by rw [avR_succ];rfl
        have pl2:=(plain_r2 (mLo l) (mHi l)).plain (i+1)
        simp only [Nat.succ_ne_zero,if_false]
        rw [e]
        exact le_to0 [0,5] (by simp) (by simp [KeepAll,sh,AObj.ren,AV.ren,renL,hid,pl2.sc,pl2.ren];omega) (by simp [sh,AV.ren])
    · obtain rfl:i=l.length+1:=by omega
      have h0:¬ l.length+1=0:=by omega
      simp only [h0,if_false]
      have hlt2:¬ ((l.length:Int)+1≤l.length):=by omega
      have pl:=(plain_r2 (mLo l) (mHi l)).plain (l.length+1)
      repeat (first|(with_reducible first|apply X1|apply X2|apply X3|apply X4|apply X8|apply Y1|apply Y4|apply Y6)|((with_reducible apply e_end);(simp;exact Rz))|((with_reducible apply O1);rfl;(simp (disch:=omega) [hlt2];exact Rz);exact Rz;(focus (first|(simp;done)|omega|(simp;omega))))|((with_reducible apply W3);(simp (disch:=omega) [hlt2];exact Rz)))
      exact q_post (v':=.slice H.length 0 (l.length+1) 2 false) (.inr rfl) (by simp;exact Rz) (le_plain [1] _ (by simp) rfl (by simp;exact pl.o _) (by simp [sh,AV.ren])) ⟨rfl,rfl⟩
set_option maxHeartbeats 2000000 in
theorem c_rPlace (H:Heap) (l:List Str) (at_:Int) (id off:Nat) (ex:Bool) (hs:rd H id off (l.length * 9)=some (l.flatMap Str.av)) (hv:validL l) (h0:0≤at_) (h1:at_≤360000) :
    ACalls Try.prog F.ref01_Place [.agg [.slice id off l.length 9 ex],.int .i64 at_] H (fun v h'=>v=.tuple [.slice H.length 0 (plL_ l at_).length 1 false,.int .i64 0]∧h'=H++[.cells (avK (plL_ l at_)) true]):=by
  refine acalls_of ok_ref01_Place rfl fun hcl=>?_
  unfold ac_ref01_Place zo
  simp only [argsT,Nat.zero_add,Nat.reduceAdd]
  have hid:=rd_lt hs
  have h12:=hv.1
  repeat (first|(with_reducible first|apply X1|apply X2|apply X8)|((with_reducible apply e_end);(simp;exact Rz))|((with_reducible apply O1);rfl;(simp (disch:=omega);exact Rz);exact Rz;(focus (first|(simp;done)|omega|(simp;omega)))))
  (with_reducible apply e_call);(simp;exact Rz);exact c_rTrack _ l id off ex (by rw [rd_old _ hid];exact hs) (by omega)
  rintro _ _ ⟨rfl,b,rfl,hb⟩
  obtain rfl:b=true:=hb.2 hv
  repeat (first|(with_reducible first|apply X1|apply X2|apply X5|apply X8)|((with_reducible apply e_end);(simp;exact Rz))|((with_reducible apply O1);rfl;(simp (disch:=omega);exact Rz);exact Rz;(focus (first|(simp;done)|omega|(simp;omega))))|((with_reducible apply W3);(simp (disch:=omega);exact Rz)))
  (with_reducible apply e_call);(simp;exact Rz);exact c_rwithin' _ _ _ _ (b:=true) (by simp only [true_iff];exact⟨h0,h1⟩)
  rintro _ _ ⟨rfl,rfl⟩
  repeat (first|(with_reducible first|apply X1|apply X2|apply X5|apply X8)|((with_reducible apply e_end);(simp;exact Rz))|((with_reducible apply O1);rfl;(simp (disch:=omega);exact Rz);exact Rz;(focus (first|(simp;done)|omega|(simp;omega))))|((with_reducible apply W3);(simp (disch:=omega);exact Rz)))
  (with_reducible apply e_call);(simp;exact Rz);exact c_rmarks _ l id off ex (by rw [rd_old _ hid];exact hs) hv
  rintro _ _ ⟨rfl,rfl⟩
  have hlA:(avR (r2 (mLo l) (mHi l)) (l.length+1)).length=(l.length+1) * 2:=(plain_r2 _ _).length _
  have g0:∀ v,v<l.length+1→((avR (r2 (mLo l) (mHi l)) (l.length+1)).drop (v * 2)).take 1=[.int .i64 (mLo l v)]:=fun v hv=>(plain_r2 (mLo l) (mHi l)).part (c:=0) (m:=1) hv (by omega)
  have g1:∀ v,v<l.length+1→((avR (r2 (mLo l) (mHi l)) (l.length+1)).drop (v * 2+1)).take 1=[.int .i64 (mHi l v)]:=fun v hv=>(plain_r2 (mLo l) (mHi l)).part (c:=1) (m:=1) hv (by omega)
  have hsel:∀ i,selF (plSel l at_) (i+1)=if plSel l at_ i=true then selF (plSel l at_) i++[i] else selF (plSel l at_) i:=selF_succ _
  have hlen:∀ i,(selF (plSel l at_) i).length≤i:=selF_len _
  have hs0:selF (plSel l at_) 0=[]:=rfl
  have hne:=plL_ne hv h0
  have heq:plL_ l at_=selF (plSel l at_) (l.length+1):=rfl
  rw [heq] at hne ⊢
  generalize selF (plSel l at_)=T at *
  have hM:Plain (avR (r2 (mLo l) (mHi l)) (l.length+1)):=(plain_r2 (mLo l) (mHi l)).plain _
  generalize hMM:avR (r2 (mLo l) (mHi l)) (l.length+1)=M at *
  repeat (first|(with_reducible first|apply X1|apply X2|apply X6|apply X8)|((with_reducible apply e_end);(simp;exact Rz))|((with_reducible apply O1);rfl;(simp (disch:=omega);exact Rz);exact Rz;(focus (first|(simp;done)|omega|(simp;omega)))))
  refine e_loop (ι:={ x:Nat × AV × Heap // x.1≤l.length+1∧AAt (H++(.cells [.slice id off l.length 9 ex] true :: .cells M true :: x.2.2)) 1 x.2.1 (avK (T x.1)) (T x.1).length∧∀ i,isId x.2.1 i→H.length+2≤i })
    (fun x=>[(1,.int .i64 at_),(6,.slice (H.length+1) 0 (l.length+1) 2 false),(7,x.1.2.1),(8,.int .i64 x.1.1)])
    (fun x=>H++(.cells [.slice id off l.length 9 ex] true :: .cells M true :: x.1.2.2)) (fun x=>l.length+1-x.1.1) ⟨(0,.nilslice,[]),by simp,by rw [hs0];exact AAt.nil _ _,fun i hi=>hi.elim⟩ ?_ ?_
  · exact .inl rfl
  · rintro⟨⟨i,v,G⟩,hi,hv2,hvi⟩
    dsimp only at hi hv2 hvi ⊢
    by_cases hlt:i<l.length+1
    · have hlt2:(i:Int)<(l.length:Int)+1:=by omega
      have hsel:=hsel i
      have hlen:=hlen i
      have k0:=g0 i hlt
      have w0:i * 2+1≤(l.length+1) * 2:=by omega
      have bm:=mark_bd hv (show i≤l.length by omega)
      by_cases hm:mLo l i≤at_
      · by_cases hl:i=l.length
        · subst hl
          have hs:plSel l at_ l.length=true:=by simp [plSel,hm]
          rw [if_pos hs] at hsel
          have hz:(l.length:Int)+1-1=l.length:=by omega
          repeat (first|(with_reducible first|apply X1|apply X2|apply X5|apply X6|apply X8)|((with_reducible apply e_end);(simp;exact Rz))|((with_reducible apply O1);rfl;(simp (disch:=omega) [hlt,hlt2,k0,hlA,hm,w0,hz];exact Rz);exact Rz;(focus (first|(simp;done)|omega|(simp;omega))))|((with_reducible first|apply Z7|apply Z9);(simp (disch:=omega) [hlt,hlt2,k0,hlA,hm,w0,hz];exact Rz))|((with_reducible apply Z2);(simp (disch:=omega) [hlt,hlt2,k0,hlA,hm,w0,hz];exact Rz)))
          refine e_appA (A:=H++[.cells [.slice id off l.length 9 ex] true,.cells M true]) (G:=G++[.cells [.int .i64 (l.length:Int)] true]) (cs:=avK (T l.length)) (n:=(T l.length).length) (m:=1) (new:=[.int .i64 (l.length:Int)]) (by simp) (by simp;exact Rz) (by simp;exact Rz) (by have:=hv2.app [.cells [.int .i64 (l.length:Int)] true];simpa using this) (fun k hk=>by have:=hvi k hk;simp;omega) (by simp [Nat.add_assoc]) (by simp) (by omega) (by omega) ?_
          intro G2 v2 e3 e4 _ _ _
          simp only [List.append_assoc,List.cons_append,List.nil_append] at e3 e4 ⊢
          repeat (first|(with_reducible first|apply X2|apply X8|apply Y2)|((with_reducible apply e_end);(simp;exact Rz))|((with_reducible apply O1);rfl;(simp (disch:=omega);exact Rz);exact Rz;(focus (first|(simp;done)|omega|(simp;omega)))))
          refine q_again ⟨(l.length+1,v2,G2),by dsimp only;omega,?_,?_⟩ (by dsimp only;omega) (.inl (by simp))
          · simp only [hsel,← avK_app,List.length_append];exact e3
          · intro k hk;have:=e4 k hk;simpa using this
        · have hl2:¬ (i:Int)=l.length:=by omega
          have hlt3:i+1<l.length+1:=by omega
          have k1:=g1 (i+1) hlt3
          have w1:(i+1) * 2+2≤(l.length+1) * 2:=by omega
          have hz:(l.length:Int)+1-1=l.length:=by omega
          have bm2:=mark_bd hv (show i+1≤l.length by omega)
          by_cases hx:at_<mHi l (i+1)
          · have hs:plSel l at_ i=true:=by simp [plSel,hm,hx]
            rw [if_pos hs] at hsel
            repeat (first|(with_reducible first|apply X1|apply X2|apply X5|apply X6|apply X8)|((with_reducible apply e_end);(simp;exact Rz))|((with_reducible apply O1);rfl;(simp (disch:=omega) [hlt,hlt2,k0,hlA,hm,w0,hl2,k1,hx,w1,hz,hlt3];exact Rz);exact Rz;(focus (first|(simp;done)|omega|(simp;omega))))|((with_reducible first|apply Z7|apply Z9);(simp (disch:=omega) [hlt,hlt2,k0,hlA,hm,w0,hl2,k1,hx,w1,hz,hlt3];exact Rz)))
            refine e_appA (A:=H++[.cells [.slice id off l.length 9 ex] true,.cells M true]) (G:=G++[.cells [.int .i64 (i:Int)] true]) (cs:=avK (T i)) (n:=(T i).length) (m:=1) (new:=[.int .i64 (i:Int)]) (by simp) (by simp;exact Rz) (by simp;exact Rz) (by have:=hv2.app [.cells [.int .i64 (i:Int)] true];simpa using this) (fun k hk=>by have:=hvi k hk;simp;omega) (by simp [Nat.add_assoc]) (by simp) (by omega) (by omega) ?_
            intro G2 v2 e3 e4 _ _ _
            simp only [List.append_assoc,List.cons_append,List.nil_append] at e3 e4 ⊢
            repeat (first|(with_reducible first|apply X2|apply X8|apply Y2)|((with_reducible apply e_end);(simp;exact Rz))|((with_reducible apply O1);rfl;(simp (disch:=omega);exact Rz);exact Rz;(focus (first|(simp;done)|omega|(simp;omega)))))
            refine q_again ⟨(i+1,v2,G2),by dsimp only;omega,?_,?_⟩ (by dsimp only;omega) (.inl (by simp))
            · simp only [hsel,← avK_app,List.length_append];exact e3
            · intro k hk;have:=e4 k hk;simpa using this
          · have hs:¬ plSel l at_ i=true:=by simp [plSel,hm,hx,hl]
            rw [if_neg hs] at hsel
            repeat (first|(with_reducible first|apply X1|apply X2|apply X5|apply X6|apply X8|apply Y2)|((with_reducible apply e_end);(simp;exact Rz))|((with_reducible apply O1);rfl;(simp (disch:=omega) [hlt,hlt2,k0,hlA,hm,w0,hl2,k1,hx,w1,hz,hlt3];exact Rz);exact Rz;(focus (first|(simp;done)|omega|(simp;omega))))|((with_reducible first|apply Z7|apply Z9);(simp (disch:=omega) [hlt,hlt2,k0,hlA,hm,w0,hl2,k1,hx,w1,hz,hlt3];exact Rz))|((with_reducible apply W3);(simp (disch:=omega) [hlt,hlt2,k0,hlA,hm,w0,hl2,k1,hx,w1,hz,hlt3];exact Rz)))
            refine q_again ⟨(i+1,v,G),by dsimp only;omega,by dsimp only;rw [hsel];exact hv2,hvi⟩ (by dsimp only;omega) (.inl (by simp))
      · have hs:¬ plSel l at_ i=true:=by simp [plSel,hm]
        rw [if_neg hs] at hsel
        repeat (first|(with_reducible first|apply X1|apply X2|apply X5|apply X6|apply X8|apply Y2)|((with_reducible apply e_end);(simp;exact Rz))|((with_reducible apply O1);rfl;(simp (disch:=omega) [hlt,hlt2,k0,hlA,hm,w0];exact Rz);exact Rz;(focus (first|(simp;done)|omega|(simp;omega))))|((with_reducible apply Z9);(simp (disch:=omega) [hlt,hlt2,k0,hlA,hm,w0];exact Rz))|((with_reducible apply Z1);(simp (disch:=omega) [hlt,hlt2,k0,hlA,hm,w0];exact Rz))|((with_reducible first|apply W1|apply W3);(simp (disch:=omega) [hlt,hlt2,k0,hlA,hm,w0];exact Rz)))
        refine q_again ⟨(i+1,v,G),by dsimp only;omega,by dsimp only;rw [hsel];exact hv2,hvi⟩ (by dsimp only;omega) (.inl (by simp))
    · have hlt2:¬ (i:Int)<(l.length:Int)+1:=by omega
      obtain rfl:i=l.length+1:=by omega
      repeat (first|(with_reducible first|apply X1|apply X2|apply X3|apply X4|apply X8|apply Y1|apply Y4|apply Y6)|((with_reducible apply e_end);(simp;exact Rz))|((with_reducible apply O1);rfl;(simp (disch:=omega) [hlt2];exact Rz);exact Rz;(focus (first|(simp;done)|omega|(simp;omega))))|((with_reducible apply W3);(simp (disch:=omega) [hlt2];exact Rz)))
      have hn0:¬ (T (l.length+1)).length=0:=by simpa using hne
      have hle:=le_ls (H:=H) (G:=.cells [.slice id off l.length 9 ex] true :: .cells M true :: G) (fun x=>AV.tuple [x,.int .i64 0]) (fun _ _=>rfl) (fun x m h=>by simpa [AV.sc,scL] using h) (plainK _) hv2 (fun i hi=>by have:=hvi i hi;omega)
      simp only [lsV,lsO,if_neg hn0] at hle
      exact q_post (v':=.tuple [.slice H.length 0 (T (l.length+1)).length 1 false,.int .i64 0]) (.inr rfl) (by simp;exact Rz) hle ⟨rfl,rfl⟩
theorem c_PlaceE (H:Heap) (l:List Str) (id off:Nat) (ex:Bool) (at_:Int) (hs:rd H id off (l.length * 9)=some (l.flatMap Str.av)) (hn:(l.length:Int)<1000000) (hbad:¬ validL l∨¬ (0≤at_∧at_≤360000)) :
    ∀ e:Int,(¬ validL l→e=10)→(validL l→e=2)→ACalls Try.prog F.track_Place [.agg [.slice id off l.length 9 ex],.int .i64 at_] H (fun v h'=>v=.tuple [.nilslice,.int .i64 e]∧h'=H):=by
  intro e he1 he2
  refine acalls_of ok_track_Place rfl fun hcl=>?_
  unfold ac_track_Place zo
  simp only [argsT,Nat.zero_add,Nat.reduceAdd]
  have hid:=rd_lt hs
  repeat (first|(with_reducible first|apply X1|apply X2|apply X8)|((with_reducible apply e_end);(simp;exact Rz))|((with_reducible apply O1);rfl;(simp (disch:=omega);exact Rz);exact Rz;(focus (first|(simp;done)|omega|(simp;omega)))))
  (with_reducible apply e_call);(simp;exact Rz);exact c_Check _ l id off ex (by rw [rd_old _ hid];exact hs) hn
  rintro _ _ ⟨rfl,e0,rfl,he⟩
  rcases he with⟨hv,rfl⟩|⟨hv,rfl⟩
  · obtain rfl:=he2 hv
    have hd:=hbad.resolve_left (fun h=>h hv)
    repeat (first|(with_reducible first|apply X1|apply X2|apply X5|apply X8|apply Y9)|((with_reducible apply e_end);(simp;exact Rz))|((with_reducible apply O1);rfl;(simp (disch:=omega);exact Rz);exact Rz;(focus (first|(simp;done)|omega|(simp;omega))))|((with_reducible apply W3);(simp (disch:=omega);exact Rz)))
    (with_reducible apply d_call);(simp;exact Rz);exact c_upto _ _;(focus (first|(simp;done)|(simp;omega)))
    repeat (first|((with_reducible apply P3);rfl;(simp (disch:=omega);exact Rz);exact Rz;(focus (first|(simp;done)|omega|(simp;omega))))|((with_reducible apply P6);rfl;(simp (disch:=omega);exact Rz);exact Rz;(focus (first|(simp [pr];done)|(simp [pr];omega)))))
    (with_reducible apply d_call);(simp;exact Rz);exact c_within _ 0 360000 [at_] (H.length+2) 0 true (by simp) (by simp);(focus (first|(simp;done)|(simp;omega)))
    have hw:([at_].all fun x=>decide (0≤x∧x≤360000))=false:=by simp;omega
    rw [hw]
    repeat (first|(with_reducible first|apply X1|apply X2|apply X3|apply X8|apply X9)|((with_reducible first|apply e_end|apply d_end);(simp;exact Rz))|((first|((with_reducible apply O1);rfl)|((with_reducible apply P1);rfl));(simp (disch:=omega);exact Rz);exact Rz;(focus (first|(simp;done)|omega|(simp;omega))))|((with_reducible apply Z9);(simp (disch:=omega);exact Rz)))
    refine q_drop (.inr rfl) (by simp;exact Rz) (by simp) ⟨rfl,rfl⟩
  · obtain rfl:=he1 hv
    repeat (first|(with_reducible first|apply X1|apply X2|apply X3|apply X8|apply X9)|((with_reducible apply e_end);(simp;exact Rz))|((with_reducible apply O1);rfl;(simp (disch:=omega);exact Rz);exact Rz;(focus (first|(simp;done)|omega|(simp;omega))))|((with_reducible apply Z9);(simp (disch:=omega);exact Rz)))
    refine q_drop (.inr rfl) (by simp;exact Rz) (by simp) ⟨rfl,rfl⟩
theorem c_rPlaceE (H:Heap) (l:List Str) (id off:Nat) (ex:Bool) (at_:Int) (hs:rd H id off (l.length * 9)=some (l.flatMap Str.av)) (hn:(l.length:Int)<1000000) (hbad:¬ validL l∨¬ (0≤at_∧at_≤360000)) :
    ∀ e:Int,(¬ validL l→e=10)→(validL l→e=2)→ACalls Try.prog F.ref01_Place [.agg [.slice id off l.length 9 ex],.int .i64 at_] H (fun v h'=>v=.tuple [.nilslice,.int .i64 e]∧h'=H):=by
  intro e he1 he2
  refine acalls_of ok_ref01_Place rfl fun hcl=>?_
  unfold ac_ref01_Place zo
  simp only [argsT,Nat.zero_add,Nat.reduceAdd]
  have hid:=rd_lt hs
  repeat (first|(with_reducible first|apply X1|apply X2|apply X8)|((with_reducible apply e_end);(simp;exact Rz))|((with_reducible apply O1);rfl;(simp (disch:=omega);exact Rz);exact Rz;(focus (first|(simp;done)|omega|(simp;omega)))))
  (with_reducible apply e_call);(simp;exact Rz);exact c_rTrack _ l id off ex (by rw [rd_old _ hid];exact hs) hn
  rintro _ _ ⟨rfl,b,rfl,hb⟩
  cases b with
  | false =>
    obtain rfl:=he1 (fun h=>by have:=hb.2 h;cases this)
    repeat (first|(with_reducible first|apply X1|apply X2|apply X3|apply X8|apply X9)|((with_reducible apply e_end);(simp;exact Rz))|((with_reducible apply O1);rfl;(simp (disch:=omega);exact Rz);exact Rz;(focus (first|(simp;done)|omega|(simp;omega))))|((with_reducible apply Z9);(simp (disch:=omega);exact Rz)))
    refine q_drop (.inr rfl) (by simp;exact Rz) (by simp) ⟨rfl,rfl⟩
  | true =>
    have hv:=hb.1 rfl
    obtain rfl:=he2 hv
    have hd:=hbad.resolve_left (fun h=>h hv)
    repeat (first|(with_reducible first|apply X1|apply X2|apply X5|apply X8)|((with_reducible apply e_end);(simp;exact Rz))|((with_reducible apply O1);rfl;(simp (disch:=omega);exact Rz);exact Rz;(focus (first|(simp;done)|omega|(simp;omega))))|((with_reducible apply W3);(simp (disch:=omega);exact Rz)))
    (with_reducible apply e_call);(simp;exact Rz);exact c_rwithin' _ _ _ _ (b:=false) (by simp only [Bool.false_eq_true,false_iff];exact hd)
    rintro _ _ ⟨rfl,rfl⟩
    repeat (first|(with_reducible first|apply X1|apply X2|apply X3|apply X8|apply X9)|((with_reducible apply e_end);(simp;exact Rz))|((with_reducible apply O1);rfl;(simp (disch:=omega);exact Rz);exact Rz;(focus (first|(simp;done)|omega|(simp;omega))))|((with_reducible apply Z9);(simp (disch:=omega);exact Rz)))
    refine q_drop (.inr rfl) (by simp;exact Rz) (by simp) ⟨rfl,rfl⟩
theorem flatB_len {α:Type} {f:α→List AV} {m:Nat} (hf:∀ a,(f a).length=m) (l:List α):(l.flatMap f).length=l.length * m:=by
  induction l with
  | nil=>simp
  | cons a l ih=>rw [List.flatMap_cons,List.length_append,ih,hf,List.length_cons,Nat.add_mul];omega
@[simp] def zc:List AV:=[.nilslice,.nilslice,.nilslice,.int .i64 0,.int .i64 0,.int .i64 0,.int .i64 0,.int .i64 0,.int .i64 0,.int .i64 0]
def drillE (l:List Str) (c:Cv) (at_ a b:Int) (e:Int):Prop :=
  (e=2∧¬ (0≤a∧a≤b∧b≤2000))∨(e=6∧(0≤a∧a≤b∧b≤2000)∧¬ ∃ k,k<c.bs.length∧plL_ l at_=[k]) ∨
  (e=8∧(0≤a∧a≤b∧b≤2000)∧∃ k,k<c.bs.length∧plL_ l at_=[k]∧min (c.b k).hi b<max (c.b k).lo a)
set_option maxHeartbeats 2000000 in
theorem c_iDrill (H:Heap) (l:List Str) (c:Cv) (p:Plc) (hp:CvAt H c p) (ht:TrAt H l p) (hv:validL l) (hc:c.ok l.length) (at_ a b:Int) (h0:0≤at_) (h1:at_≤360000) :
    ACalls Try.prog F.ice_Drill [.agg (c.av p),.int .i64 at_,.agg [.int .i64 a,.int .i64 b]] H (fun v h'=>∃ G,h'=H++G ∧
      ((∃ e,v=.tuple [.agg zc,.int .i64 e]∧drillE l c at_ a b e) ∨
      (∃ k p2,k<c.bs.length∧plL_ l at_=[k]∧(0≤a∧a≤b∧b≤2000)∧max (c.b k).lo a≤min (c.b k).hi b∧v=.tuple [.agg ((c.withB k (max (c.b k).lo a) (min (c.b k).hi b)).av p2),.int .i64 0]∧CvAt (H++G) (c.withB k (max (c.b k).lo a) (min (c.b k).hi b)) p2∧TrAt (H++G) l p2))):=by
  have h12:=hv.1
  have hlen:=hc.len
  have h8:=hc.hours
  have k0:=fun G=>c_iCheck (H++G) l c p (hp.app G) (ht.app G) (by omega) (by omega) (by omega)
  have hp1:=hp.t
  have hp2:=rd_lt hp.b
  have hp3:=rd_lt hp.h
  have hp4:=rd_lt ht.t
  have htn:=ht.n
  obtain⟨b1,hb1⟩:=bof (a≤b∧0≤a∧b≤2000)
  have hpm:∀ k,k∈plL_ l at_→k≤l.length:=fun k hk=>by
    simp only [plL_,selF,List.mem_filter,List.mem_range] at hk;omega
  have kb:=fun X=>c_CloneB (H++X) c p.bid p.boff p.bex (by rw [rd_old _ hp2];exact hp.b) (by omega) (by omega)
  have kh:=fun X=>c_CloneH (H++X) c p.hid p.hoff p.hex (by rw [rd_old _ hp3];exact hp.h) (by omega) (by omega)
  have kt:=fun X=>c_CloneT (H++X) l p.tid p.toff p.tex (by rw [rd_old _ hp4];exact ht.t) (by omega) (by omega)
  have hpl:=fun X=>c_Place (H++X) l at_ p.tid p.toff p.tex (by rw [rd_old _ hp4];exact ht.t) hv h0 h1
  simp only [Cv.av,drillE] at *
  generalize plL_ l at_=pls at *
  refine acalls_of ok_ice_Drill rfl fun hcl=>?_
  unfold ac_ice_Drill zo
  simp only [argsT,Nat.zero_add,Nat.reduceAdd]
  repeat (first|(with_reducible first|apply X1|apply X2|apply X8)|((with_reducible apply e_end);(simp;exact Rz))|((with_reducible apply O1);rfl;(simp (disch:=omega);exact Rz);exact Rz;(focus (first|(simp;done)|omega|(simp;omega)))))
  (with_reducible apply e_call);(simp;exact Rz);exact k0 _
  rintro _ _ ⟨rfl,e,rfl,he⟩
  obtain rfl:e=0:=by
    rcases he with⟨_,_,rfl⟩|⟨a,_⟩|⟨_,a,_⟩
    · rfl
    · exact absurd hv a
    · exact absurd hc a
  repeat (first|(with_reducible first|apply X1|apply X2|apply X5|apply X8)|((with_reducible apply e_end);(simp;exact Rz))|((with_reducible apply O1);rfl;(simp (disch:=omega) [htn];exact Rz);exact Rz;(focus (first|(simp;done)|omega|(simp;omega))))|((with_reducible apply W3);(simp (disch:=omega) [htn];exact Rz)))
  (with_reducible apply e_call);(simp;exact Rz);exact hpl _
  rintro _ _ ⟨rfl,rfl⟩
  repeat (first|(with_reducible first|apply X1|apply X8|apply Y9)|((with_reducible apply e_end);(simp;exact Rz))|((first|((with_reducible apply O1);rfl)|((with_reducible apply P1);rfl)|((with_reducible apply P2);rfl));(simp (disch:=omega);exact Rz);exact Rz;(focus (first|(simp;done)|omega|(simp;omega))))|((with_reducible apply Z8);(simp (disch:=omega);exact Rz)))
  (with_reducible apply d_call);(simp;exact Rz);exact c_upto _ _;(focus (first|(simp;done)|(simp;omega)))
  repeat ((with_reducible apply Z8);(simp (disch:=omega);exact Rz))
  (with_reducible apply d_call);(simp;exact Rz);exact c_fits' _ _ _ _ _ hb1;(focus (first|(simp;done)|(simp;omega)))
  cases b1 with
  | false =>
    repeat (first|(with_reducible first|apply X1|apply X2|apply X3|apply X8|apply X9)|((with_reducible first|apply e_end|apply d_end);(simp;exact Rz))|((first|((with_reducible apply O1);rfl)|((with_reducible apply O2);rfl)|((with_reducible apply P1);rfl));(simp (disch:=omega);exact Rz);exact Rz;(focus (first|(simp;done)|omega|(simp;omega))))|((with_reducible first|apply Z8|apply Z9);(simp (disch:=omega);exact Rz)))
    refine q_drop (.inr rfl) (by simp;exact Rz) (by simp) ⟨[],(List.append_nil _).symm,.inl ⟨2,rfl,.inl ⟨rfl,fun h=>by have:=hb1.2 ⟨h.2.1,h.1,h.2.2⟩;cases this⟩⟩⟩
  | true =>
  have hb1:=hb1.1 rfl
  have hfit:0≤a∧a≤b∧b≤2000:=⟨hb1.2.1,hb1.1,hb1.2.2⟩
  by_cases hp1:pls.length=1
  rotate_left
  · have hp1':¬ (pls.length:Int)=1:=by omega
    repeat (first|(with_reducible first|apply X1|apply X2|apply X3|apply X5|apply X8|apply X9|apply Y9)|((with_reducible first|apply e_end|apply d_end);(simp;exact Rz))|((first|((with_reducible apply O1);rfl)|((with_reducible apply O2);rfl)|((with_reducible apply P1);rfl));(simp (disch:=omega) [hp1,hp1'];exact Rz);exact Rz;(focus (first|(simp;done)|omega|(simp;omega))))|((with_reducible first|apply Z8|apply Z9);(simp (disch:=omega) [hp1,hp1'];exact Rz))|((with_reducible apply Z6);(simp (disch:=omega) [hp1,hp1'];exact Rz))|((with_reducible apply W3);(simp (disch:=omega) [hp1,hp1'];exact Rz)))
    refine q_drop (.inr rfl) (by simp;exact Rz) (by simp) ⟨[],(List.append_nil _).symm,.inl ⟨6,rfl,.inr (.inl ⟨rfl,hfit,fun⟨k,_,h⟩=>by rw [h] at hp1;exact hp1 rfl⟩)⟩⟩
  obtain⟨k,rfl⟩:=List.length_eq_one_iff.1 hp1
  have hk:=hpm k (by simp)
  by_cases hkl:k=c.bs.length
  · subst hkl
    repeat (first|(with_reducible first|apply X1|apply X2|apply X3|apply X5|apply X8|apply X9|apply Y9)|((with_reducible first|apply e_end|apply d_end);(simp;exact Rz))|((first|((with_reducible apply O1);rfl)|((with_reducible apply O2);rfl)|((with_reducible apply P1);rfl)|((with_reducible apply P2);rfl));(simp (disch:=omega) [avK];exact Rz);exact Rz;(focus (first|(simp;done)|omega|(simp;omega))))|((with_reducible first|apply Z8|apply Z9);(simp (disch:=omega) [avK];exact Rz))|((with_reducible apply W3);(simp (disch:=omega) [avK];exact Rz)))
    refine q_drop (.inr rfl) (by simp;exact Rz) (by simp) ⟨[],(List.append_nil _).symm,.inl ⟨6,rfl,.inr (.inl ⟨rfl,hfit,fun⟨k,h1,h⟩=>by rw [List.cons.injEq] at h;omega⟩)⟩⟩
  have hkl2:k<c.bs.length:=by omega
  have hkl3:¬ (k:Int)=c.bs.length:=by omega
  have hrow:rd H p.bid (p.boff+k * 3) 2=some [.int .i64 (c.b k).lo,.int .i64 (c.b k).hi]:=by
    have:=rd_row (f:=Bd.av) Bd.av_length hp.b hkl2
    rw [← Cv.b_eq hkl2] at this
    exact rd_sub' this 0 2 (by omega)
  repeat (first|(with_reducible first|apply X1|apply X5|apply X8|apply Y9)|((with_reducible apply d_end);(simp;exact Rz))|((first|((with_reducible apply P1);rfl)|((with_reducible apply P2);rfl));(simp (disch:=omega) [avK,hkl,hkl2,hkl3,rd_old _ hp2,hrow];exact Rz);exact Rz;(focus (first|(simp;done)|omega|(simp;omega))))|((with_reducible apply Z8);(simp (disch:=omega) [avK,hkl,hkl2,hkl3,rd_old _ hp2,hrow];exact Rz))|((with_reducible apply W3);(simp (disch:=omega) [avK,hkl,hkl2,hkl3,rd_old _ hp2,hrow];exact Rz)))
  (with_reducible apply d_call);(simp;exact Rz);exact c_both _ _ _ _ _;(focus (first|(simp;done)|(simp;omega)))
  by_cases hw:min (c.b k).hi b<max (c.b k).lo a
  · repeat (first|(with_reducible first|apply X1|apply X2|apply X3|apply X8|apply X9)|((with_reducible first|apply e_end|apply d_end);(simp;exact Rz))|((first|((with_reducible apply O1);rfl)|((with_reducible apply O2);rfl)|((with_reducible apply P3);rfl)|((with_reducible apply P4);rfl));(simp (disch:=omega) [hw];exact Rz);exact Rz;(focus (first|(simp;done)|omega|(simp;omega))))|((with_reducible apply Z9);(simp (disch:=omega) [hw];exact Rz)))
    refine q_drop (.inr rfl) (by simp;exact Rz) (by simp) ⟨[],(List.append_nil _).symm,.inl ⟨8,rfl,.inr (.inr ⟨rfl,hfit,k,hkl2,rfl,hw⟩)⟩⟩
  · have hput:=put_bd (c:=c) (k:=k) (lo:=(c.b k).lo) (hi:=(c.b k).hi) (lo':=max (c.b k).lo a) (hi':=min (c.b k).hi b) hkl2
    have hll:=(plain_bd c).length c.bs.length
    have le1:k * 3+2≤c.bs.length * 3:=by omega
    rw [withB_own hkl2] at hput
    rw [flat_bd] at kb
    generalize avR (bdR c) c.bs.length=old at *
    repeat (first|(with_reducible first|apply X1|apply X2|apply X5|apply X8)|((with_reducible first|apply e_end|apply d_end);(simp;exact Rz))|((first|((with_reducible apply O1);rfl)|((with_reducible apply P3);rfl)|((with_reducible apply P4);rfl));(simp (disch:=omega) [hw];exact Rz);exact Rz;(focus (first|(simp;done)|omega|(simp;omega))))|((with_reducible apply W3);(simp (disch:=omega) [hw];exact Rz)))
    (with_reducible apply e_call);(simp;exact Rz);exact kt _
    rintro _ _ ⟨rfl,rfl⟩
    repeat (first|(with_reducible first|apply X1|apply X2|apply X8)|((with_reducible apply e_end);(simp;exact Rz))|((first|((with_reducible apply O1);rfl)|((with_reducible apply O2);rfl));(simp (disch:=omega);exact Rz);exact Rz;(focus (first|(simp;done)|omega|(simp;omega)))))
    (with_reducible apply e_call);(simp;exact Rz);exact kb _
    rintro _ _ ⟨rfl,rfl⟩
    repeat (first|(with_reducible first|apply X1|apply X2|apply X8)|((with_reducible apply e_end);(simp;exact Rz))|((first|((with_reducible apply O1);rfl)|((with_reducible apply O2);rfl));(simp (disch:=omega);exact Rz);exact Rz;(focus (first|(simp;done)|omega|(simp;omega)))))
    (with_reducible apply e_call);(simp;exact Rz);exact kh _
    rintro _ _ ⟨rfl,rfl⟩
    repeat (first|(with_reducible first|apply X1|apply X8|apply Y9)|((with_reducible apply e_end);(simp;exact Rz))|((first|((with_reducible apply O1);rfl)|((with_reducible apply O2);rfl)|((with_reducible apply P1);rfl)|((with_reducible apply P2);rfl));(simp (disch:=omega) [avK,hkl,hkl2,hkl3];exact Rz);exact Rz;(focus (first|(simp;done)|omega|(simp;omega)))))
    repeat (first|(with_reducible first|apply X1|apply X2|apply X3|apply X8)|((with_reducible first|apply e_end|apply d_end);(simp;exact Rz))|((first|((with_reducible apply O1);rfl)|((with_reducible apply O2);rfl)|((with_reducible apply P4);rfl));(simp (disch:=omega) [Nat.add_assoc,hll,le1,-splice,hput];exact Rz);exact Rz;(focus (first|(simp;done)|omega|(simp;omega)))))
    refine q_stay (.inr rfl) (by simp;exact Rz) ⟨_,rfl,.inr ⟨k,⟨H.length+5,0,false,l.length,H.length+6,0,false,H.length+7,0,false⟩,hkl2,rfl,hfit,by omega,by simp only [withB_len];rfl,⟨?_,?_,?_⟩,⟨rfl,?_⟩⟩⟩
    · simp
    · rw [flat_bd,withB_len]
      exact rd_full (b:=true) (by simp [at_new,Nat.add_assoc]) ((plain_bd _).length _)
    · exact rd_full (b:=true) (by simp [at_new,Nat.add_assoc];rfl) (flatB_len Hr.av_length c.hs)
    · exact rd_full (b:=true) (by simp [at_new,Nat.add_assoc]) (flatB_len Str.av_length l)
end Go.Proofs
/- Ice: drilling,by the reference. -/
namespace Go.Proofs
open Go.Abs
attribute [local simp] AOp.den AOpd.ev lk cellsOf rd_new rd_new0 rd_zero rd_succ wr_new wr_new0 wr_zero wr_succ splice fillA binA scal sliceCells List.length_append argsT AV.sc scL AObj.sc resV getAll AR.get AOp.slots opdSlots opdsSlots partSlots eqAt at_new0 at_new set_new0 set_new wrap64
set_option linter.unusedSimpArgs false
set_option linter.unusedVariables false
set_option maxHeartbeats 2000000 in
theorem c_r2Drill (H:Heap) (l:List Str) (c:Cv) (p:Plc) (hp:CvAt H c p) (ht:TrAt H l p) (hv:validL l) (hc:c.ok l.length) (at_ a b:Int) (h0:0≤at_) (h1:at_≤360000) :
    ACalls Try.prog F.ref02_Drill [.agg (c.av p),.int .i64 at_,.agg [.int .i64 a,.int .i64 b]] H (fun v h'=>∃ G,h'=H++G ∧
      ((∃ e,v=.tuple [.agg zc,.int .i64 e]∧drillE l c at_ a b e) ∨
      (∃ k p2,k<c.bs.length∧plL_ l at_=[k]∧(0≤a∧a≤b∧b≤2000)∧max (c.b k).lo a≤min (c.b k).hi b∧v=.tuple [.agg ((c.withB k (max (c.b k).lo a) (min (c.b k).hi b)).av p2),.int .i64 0]∧CvAt (H++G) (c.withB k (max (c.b k).lo a) (min (c.b k).hi b)) p2∧TrAt (H++G) l p2))):=by
  have h12:=hv.1
  have hlen:=hc.len
  have h8:=hc.hours
  have k0:=fun G=>c_r2Check (H++G) l c p (hp.app G) (ht.app G) (by omega) (by omega) (by omega)
  have hp1:=hp.t
  have hp2:=rd_lt hp.b
  have hp3:=rd_lt hp.h
  have hp4:=rd_lt ht.t
  have htn:=ht.n
  obtain⟨b1,hb1⟩:=bof (a≤b∧0≤a∧b≤2000)
  have hpm:∀ k,k∈plL_ l at_→k≤l.length:=fun k hk=>by
    simp only [plL_,selF,List.mem_filter,List.mem_range] at hk;omega
  have kt:=fun X=>c_r2Twin (H++X) l c p (hp.app X) (ht.app X) (by omega) (by omega) (by omega)
  have hpl:=fun X=>c_rPlace (H++X) l at_ p.tid p.toff p.tex (by rw [rd_old _ hp4];exact ht.t) hv h0 h1
  simp only [Cv.av,drillE] at *
  generalize plL_ l at_=pls at *
  refine acalls_of ok_ref02_Drill rfl fun hcl=>?_
  unfold ac_ref02_Drill zo
  simp only [argsT,Nat.zero_add,Nat.reduceAdd]
  simp only [htn] at kt
  repeat (first|(with_reducible first|apply X1|apply X2|apply X8)|((with_reducible apply e_end);(simp;exact Rz))|((with_reducible apply O1);rfl;(simp (disch:=omega);exact Rz);exact Rz;(focus (first|(simp;done)|omega|(simp;omega)))))
  (with_reducible apply e_call);(simp;exact Rz);exact k0 _
  rintro _ _ ⟨rfl,e,rfl,he⟩
  obtain rfl:e=0:=by
    rcases he with⟨_,_,rfl⟩|⟨a,_⟩|⟨_,a,_⟩
    · rfl
    · exact absurd hv a
    · exact absurd hc a
  repeat (first|(with_reducible first|apply X1|apply X2|apply X5|apply X8)|((with_reducible apply e_end);(simp;exact Rz))|((with_reducible apply O1);rfl;(simp (disch:=omega) [htn];exact Rz);exact Rz;(focus (first|(simp;done)|omega|(simp;omega))))|((with_reducible apply W3);(simp (disch:=omega) [htn];exact Rz)))
  (with_reducible apply e_call);(simp;exact Rz);exact hpl _
  rintro _ _ ⟨rfl,rfl⟩
  repeat (first|(with_reducible first|apply X1|apply X2|apply X8)|((with_reducible apply e_end);(simp;exact Rz))|((with_reducible apply O1);rfl;(simp (disch:=omega);exact Rz);exact Rz;(focus (first|(simp;done)|omega|(simp;omega))))|((with_reducible apply Z7);(simp (disch:=omega);exact Rz)))
  (with_reducible apply e_call);(simp;exact Rz);exact c_r2spanned _ _ _ _ _ (b:=b1) (by rw [hb1])
  rintro _ _ ⟨rfl,rfl⟩
  cases b1 with
  | false =>
    repeat (first|(with_reducible first|apply X1|apply X2|apply X3|apply X8|apply X9)|((with_reducible apply e_end);(simp;exact Rz))|((first|((with_reducible apply O1);rfl)|((with_reducible apply O2);rfl));(simp (disch:=omega);exact Rz);exact Rz;(focus (first|(simp;done)|omega|(simp;omega))))|((with_reducible first|apply Z7|apply Z9);(simp (disch:=omega);exact Rz)))
    refine q_drop (.inr rfl) (by simp;exact Rz) (by simp) ⟨[],(List.append_nil _).symm,.inl ⟨2,rfl,.inl ⟨rfl,fun h=>by have:=hb1.2 ⟨h.2.1,h.1,h.2.2⟩;cases this⟩⟩⟩
  | true =>
  have hb1:=hb1.1 rfl
  have hfit:0≤a∧a≤b∧b≤2000:=⟨hb1.2.1,hb1.1,hb1.2.2⟩
  by_cases hp1:pls.length=1
  rotate_left
  · have hp1':¬ (pls.length:Int)=1:=by omega
    repeat (first|(with_reducible first|apply X1|apply X2|apply X3|apply X5|apply X8|apply X9|apply Y9)|((with_reducible first|apply e_end|apply d_end);(simp;exact Rz))|((first|((with_reducible apply O1);rfl)|((with_reducible apply O2);rfl)|((with_reducible apply P1);rfl));(simp (disch:=omega) [hp1,hp1'];exact Rz);exact Rz;(focus (first|(simp;done)|omega|(simp;omega))))|((with_reducible first|apply Z7|apply Z9);(simp (disch:=omega) [hp1,hp1'];exact Rz))|((with_reducible apply Z6);(simp (disch:=omega) [hp1,hp1'];exact Rz))|((with_reducible apply W3);(simp (disch:=omega) [hp1,hp1'];exact Rz)))
    refine q_drop (.inr rfl) (by simp;exact Rz) (by simp) ⟨[],(List.append_nil _).symm,.inl ⟨6,rfl,.inr (.inl ⟨rfl,hfit,fun⟨k,_,h⟩=>by rw [h] at hp1;exact hp1 rfl⟩)⟩⟩
  obtain⟨k,rfl⟩:=List.length_eq_one_iff.1 hp1
  have hk:=hpm k (by simp)
  by_cases hkl:k=c.bs.length
  · subst hkl
    repeat (first|(with_reducible first|apply X1|apply X2|apply X3|apply X5|apply X8|apply X9|apply Y9)|((with_reducible first|apply e_end|apply d_end);(simp;exact Rz))|((first|((with_reducible apply O1);rfl)|((with_reducible apply O2);rfl)|((with_reducible apply P1);rfl)|((with_reducible apply P2);rfl));(simp (disch:=omega) [avK];exact Rz);exact Rz;(focus (first|(simp;done)|omega|(simp;omega))))|((with_reducible first|apply Z7|apply Z8|apply Z9);(simp (disch:=omega) [avK];exact Rz))|((with_reducible apply W3);(simp (disch:=omega) [avK];exact Rz)))
    refine q_drop (.inr rfl) (by simp;exact Rz) (by simp) ⟨[],(List.append_nil _).symm,.inl ⟨6,rfl,.inr (.inl ⟨rfl,hfit,fun⟨k,h1,h⟩=>by rw [List.cons.injEq] at h;omega⟩)⟩⟩
  have hkl2:k<c.bs.length:=by omega
  have hkl3:¬ (k:Int)=c.bs.length:=by omega
  have hrow:rd H p.bid (p.boff+k * 3) 2=some [.int .i64 (c.b k).lo,.int .i64 (c.b k).hi]:=by
    have:=rd_row (f:=Bd.av) Bd.av_length hp.b hkl2
    rw [← Cv.b_eq hkl2] at this
    exact rd_sub' this 0 2 (by omega)
  repeat (first|(with_reducible first|apply X1|apply X2|apply X5|apply X8|apply Y9)|((with_reducible first|apply e_end|apply d_end);(simp;exact Rz))|((first|((with_reducible apply O1);rfl)|((with_reducible apply P1);rfl)|((with_reducible apply P2);rfl));(simp (disch:=omega) [avK,hkl,hkl2,hkl3,rd_old _ hp2,hrow];exact Rz);exact Rz;(focus (first|(simp;done)|omega|(simp;omega))))|((with_reducible first|apply Z7|apply Z8);(simp (disch:=omega) [avK,hkl,hkl2,hkl3,rd_old _ hp2,hrow];exact Rz))|((with_reducible apply W3);(simp (disch:=omega) [avK,hkl,hkl2,hkl3,rd_old _ hp2,hrow];exact Rz)))
  have hput:=put_bd (c:=c) (k:=k) (lo:=(c.b k).lo) (hi:=(c.b k).hi) (lo':=max (c.b k).lo a) (hi':=min (c.b k).hi b) hkl2
  have hll:=(plain_bd c).length c.bs.length
  have le1:k * 3+2≤c.bs.length * 3:=by omega
  have le2:k * 3+1≤c.bs.length * 3:=by omega
  rw [withB_own hkl2] at hput
  rw [flat_bd] at kt
  have g0:((avR (bdR c) c.bs.length).drop (k * 3)).take 1=[.int .i64 (c.b k).lo]:=(plain_bd c).part (c:=0) (m:=1) hkl2 (by omega)
  have g1:((avR (bdR c) c.bs.length).drop (k * 3+1)).take 1=[.int .i64 (c.b k).hi]:=(plain_bd c).part (c:=1) (m:=1) hkl2 (by omega)
  obtain⟨w,hw0⟩:∃ w,w=c.withB k (max (c.b k).lo a) (min (c.b k).hi b):=⟨_,rfl⟩
  have hwb:w.b k=⟨max (c.b k).lo a,min (c.b k).hi b,(c.b k).sun⟩:=by rw [hw0,withB_b hkl2,if_pos rfl]
  have hwl:w.bs.length=c.bs.length:=by rw [hw0,withB_len]
  have g2:((avR (bdR w) c.bs.length).drop (k * 3)).take 1=[.int .i64 (max (c.b k).lo a)]:=by
    have:=(plain_bd w).part (c:=0) (m:=1) (n:=c.bs.length) hkl2 (by omega)
    rw [Nat.add_zero] at this;rw [this,bdR,hwb];rfl
  have g3:((avR (bdR w) c.bs.length).drop (k * 3+1)).take 1=[.int .i64 (min (c.b k).hi b)]:=by
    have:=(plain_bd w).part (c:=1) (m:=1) (n:=c.bs.length) hkl2 (by omega)
    rw [this,bdR,hwb];rfl
  have hlw:=(plain_bd w).length c.bs.length
  rw [← hw0] at hput
  obtain⟨new,hnew⟩:∃ new,new=avR (bdR w) c.bs.length:=⟨_,rfl⟩
  rw [← hnew] at hput g2 g3 hlw
  generalize avR (bdR c) c.bs.length=old at *
  (with_reducible apply e_call);(simp;exact Rz);exact kt _
  rintro _ _ ⟨rfl,rfl⟩
  have sp1:∀ x y:AV,splice (splice [.int .i64 0,.int .i64 0] 0 [x]) 1 [y]=[x,y]:=fun _ _=>rfl
  have sp2:∀ a0 a1 a2 a3 a4 a5 a6 a7 a8 a9:AV,splice [.nilslice,.nilslice,.nilslice,.int .i64 0,.int .i64 0,.int .i64 0,.int .i64 0,.int .i64 0,.int .i64 0,.int .i64 0] 0 [a0,a1,a2,a3,a4,a5,a6,a7,a8,a9]=[a0,a1,a2,a3,a4,a5,a6,a7,a8,a9]:=fun _ _ _ _ _ _ _ _ _ _=>rfl
  have m1:(if (c.b k).lo<a then a else (c.b k).lo)=max (c.b k).lo a:=by split <;> omega
  have m2:(if b<(c.b k).hi then b else (c.b k).hi)=min (c.b k).hi b:=by split <;> omega
  repeat (first|(with_reducible first|apply X1|apply X8|apply Y9)|((with_reducible first|apply e_end|apply d_end);(simp;exact Rz))|((first|((with_reducible apply O1);rfl)|((with_reducible apply O2);rfl)|((with_reducible apply P1);rfl)|((with_reducible apply P2);rfl)|((with_reducible apply P4);rfl));(simp (disch:=omega) [twP,Nat.add_assoc,hll,le1,le2,g0,g1,-splice,hput,g2,g3,sp1,sp2,m1,m2,hlw];exact Rz);exact Rz;(focus (first|(simp;done)|omega|(simp;omega)))))
  by_cases hw:min (c.b k).hi b<max (c.b k).lo a
  · repeat (first|(with_reducible first|apply X1|apply X2|apply X3|apply X8|apply X9)|((with_reducible apply e_end);(simp;exact Rz))|((first|((with_reducible apply O1);rfl)|((with_reducible apply O2);rfl));(simp (disch:=omega) [hw];exact Rz);exact Rz;(focus (first|(simp;done)|omega|(simp;omega))))|((with_reducible apply Z9);(simp (disch:=omega) [hw];exact Rz)))
    refine q_drop (.inr rfl) (by simp;exact Rz) (by simp) ⟨[],(List.append_nil _).symm,.inl ⟨8,rfl,.inr (.inr ⟨rfl,hfit,k,hkl2,rfl,hw⟩)⟩⟩
  · repeat (first|(with_reducible first|apply X1|apply X2|apply X3|apply X5|apply X8)|((with_reducible apply e_end);(simp;exact Rz))|((first|((with_reducible apply O1);rfl)|((with_reducible apply O2);rfl));(simp (disch:=omega) [hw];exact Rz);exact Rz;(focus (first|(simp;done)|omega|(simp;omega))))|((with_reducible apply W3);(simp (disch:=omega) [hw];exact Rz)))
    refine q_stay (.inr rfl) (by simp;exact Rz) ⟨_,rfl,.inr ⟨k,⟨H.length+4,0,false,l.length,H.length+5,0,false,H.length+6,0,false⟩,hkl2,rfl,hfit,by omega,by rw [← hw0];simp only [hwl,Cv.av];rw [hw0];rfl,?_⟩⟩
    rw [← hw0]
    refine⟨⟨?_,?_,?_⟩,⟨rfl,?_⟩⟩
    · simp
    · rw [flat_bd,hwl,← hnew]
      exact rd_full (b:=true) (by simp [at_new,Nat.add_assoc]) hlw
    · rw [hw0]
      exact rd_full (b:=true) (by simp [at_new,Nat.add_assoc];rfl) (flatB_len Hr.av_length c.hs)
    · exact rd_full (b:=true) (by simp [at_new,Nat.add_assoc]) (flatB_len Str.av_length l)
end Go.Proofs
