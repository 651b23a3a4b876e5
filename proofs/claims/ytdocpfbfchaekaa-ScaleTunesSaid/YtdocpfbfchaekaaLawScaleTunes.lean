/- kreisellaw04.ScaleTunes answers true: whether a bay and gear are valid, the truths of a scale, and what it may show, are as the document says; no other condition. -/
import Derived.Test.YtdocpfbfchaekaaSD
import Derived.Test.YtdocpfbfchaekaaParScaleTunes
import Derived.Test.YtdocpfbfchaekaaLK
import Derived.Test.YtdocpfbfchaekaaRows
import Derived.ProofKit
set_option linter.unusedSimpArgs false
set_option linter.unusedVariables false
noncomputable section
namespace Go.Proofs.Ytdocpfbfchaekaa
open Go.Abs Go.ChangeShapes Go.WideShapes Go.ChangeAt Go.RowKit
theorem own:ownKnob Try.prog.godebug=none:=by kernel_rfl
theorem laidOut:laidOutB Try.prog=true:=by kernel_rfl
def ks:List (List QK):=[[.sl [.int .i64,.int .i64,.int .i64,.int .i64,.int .i64,.int .i64,.sl [.int .i64,.int .i64]]],[.sl [.int .i64,.int .i64],.int .i64,.int .i64,.int .i64,.sl [.int .i64],.sl [.int .i64],.int .i64,.bool],[.int .i64,.int .i64,.int .i64,.int .i64,.int .i64,.int .i64,.sl [.int .i64,.int .i64]],[.int .i64]]
def PA0:TypeId:=(Try.f3.params.toList.drop 0).headD 0
def PA1:TypeId:=(Try.f3.params.toList.drop 1).headD 0
def PA2:TypeId:=(Try.f3.params.toList.drop 2).headD 0
def PA3:TypeId:=(Try.f3.params.toList.drop 3).headD 0
theorem law (h:Heap) (avs:List AV) (_:noOwn h) (hl:looks Try.prog h Try.f3.params.toList ks avs):ACalls Try.prog 3 avs h (fun v _=>v=.bool true):=by
  have e:Try.f3.params.toList=[PA0,PA1,PA2,PA3]:=by kernel_rfl
  rw [e] at hl
  simp only [looks,ks] at hl
  obtain⟨_,_,rfl,h0,_,_,rfl,h1,_,_,rfl,h2,_,_,rfl,h3,rfl⟩:=hl
  rw [argAgg (t:=PA0) (by kernel_rfl),argAgg (t:=PA1) (by kernel_rfl),argAgg (t:=PA2) (by kernel_rfl),argOne (t:=PA3) (by kernel_rfl)]
  simp only [lookL,QK.look] at h0 h1 h2 h3
  obtain⟨_,_,rfl,⟨id0,rows0,rfl,m0,o0,r0⟩,rfl⟩:=h0
  obtain⟨l0,f0,n0,e0,u0⟩:=rowsBay h rows0 r0
  rw [← n0]
  rw [f0] at o0
  have g0:=rd_of o0
  rw [e0] at g0
  obtain⟨_,_,rfl,⟨ida1,rowsa1,rfl,ma1,oa1,ra1⟩,_,_,rfl,⟨y1_1,rfl,_⟩,_,_,rfl,⟨y1_2,rfl,_⟩,_,_,rfl,⟨y1_3,rfl,_⟩,_,_,rfl,⟨idb1,rowsb1,rfl,mb1,ob1,rb1⟩,_,_,rfl,⟨idc1,rowsc1,rfl,mc1,oc1,rc1⟩,_,_,rfl,⟨y1_4,rfl,_⟩,_,_,rfl,⟨y1_5,rfl⟩,rfl⟩:=h1
  obtain⟨la1,fa1,na1,ea1⟩:=rowsLd h rowsa1 ra1
  rw [← na1]
  rw [fa1] at oa1
  obtain⟨lb1,fb1,nb1⟩:=rowsI6 h rowsb1 rb1
  rw [← nb1]
  rw [fb1] at ob1
  obtain⟨lc1,fc1,nc1⟩:=rowsI6 h rowsc1 rc1
  rw [← nc1]
  rw [fc1] at oc1
  obtain⟨_,_,rfl,⟨y2_0,rfl,_⟩,_,_,rfl,⟨y2_1,rfl,_⟩,_,_,rfl,⟨y2_2,rfl,_⟩,_,_,rfl,⟨y2_3,rfl,_⟩,_,_,rfl,⟨y2_4,rfl,_⟩,_,_,rfl,⟨y2_5,rfl,_⟩,_,_,rfl,⟨id2,rows2,rfl,m2,o2,r2⟩,rfl⟩:=h2
  obtain⟨l2,f2,n2,e2⟩:=rowsTi h rows2 r2
  rw [← n2]
  rw [f2] at o2
  have g2:=rd_of o2
  rw [e2] at g2
  obtain⟨_,_,rfl,⟨a3,rfl,p3,q3⟩,rfl⟩:=h3
  exact c_lawSTu h l0 (⟨la1,y1_1,y1_2,y1_3,lb1,lc1,y1_4,y1_5⟩:Gr) (⟨y2_0,y2_1,y2_2,y2_3,y2_4,y2_5,l2⟩:Sc) a3 id0 ida1 idb1 idc1 id2 false false false false false g0 u0 (ld_at oa1 ea1) (i6_at ob1) (i6_at oc1) g2
set_option maxRecDepth 100000 in
theorem lifted (os:Os) (started:os.Started) (H:Type) (enc:TypeId × Value→H) :
    ReturnsInHanded {} Try.checked os 3 .any (Rows.scaleTunesSpec.pre6 enc Try.prog Try.f3 Rows.scaleTunesRow.domain false) (Rows.scaleTunesSpec.post enc Try.prog Try.f3 false true false false):=by
  refine returnsInHanded_of_change (C:=Try.checked) own started (by kernel_rfl) Try.func3
    (ChangeSpec.witness6 (enc:=enc) (C:=Try.checked) false ⟨#[],#[.agg #[.slice none 0 0],.agg #[.slice none 0 0,.int .i64 0,.int .i64 0,.int .i64 0,.slice none 0 0,.slice none 0 0,.int .i64 0,.bool false],.agg #[.int .i64 0,.int .i64 0,.int .i64 0,.int .i64 0,.int .i64 0,.int .i64 0,.slice none 0 0],.int .i64 0],[]⟩ 8 (by kernel_rfl) (by kernel_rfl) (by kernel_rfl) (by kernel_rfl)) ?_
  intro W base args ds gs before hval hW hcnd _
  exact law_step (n:=9) (ks:=ks) (bt:=Try.f3.resultTypes.toList.headD 0) laidOut (by kernel_rfl) (by kernel_rfl) (by kernel_rfl) (by kernel_rfl) rfl (by
    intro ds hds
    have e:Try.f3.params.toList.length=4:=by kernel_rfl
    rw [e] at hds
    match ds,hds with
    | [a,b,c,d],_=>rfl) law W base args ds gs before hval hW
open ParScaleTunes
set_option maxRecDepth 100000 in
theorem closed:joinedFacts Try.prog 3 Try.f3 Rows.scaleTunesSpec Rows.scaleTunesRow=true:=by
  unfold joinedFacts
  exact band (band (band (band (band (band (band (band (band (band (band (band (band (band (band (band (band (band (band (band (band (band (band (band (band (band (band (band (band (band (band (k0) k1) k2) k3) k4) k5) k6) k7) k8) k9) k10) k11) k12) k13) k14) k15) k16) k17) k18) k19) k20) k21) k22) k23) k24) k25) k26) k27) k28) k29) k30) k31
theorem over:Rows.ScaleTunesSaid :=
  OpenClaim.holds_of_wide 3 Try.f3 rfl rfl rfl rfl rfl rfl rfl ⟨rfl,rfl,rfl,rfl,rfl⟩ rfl rfl rfl rfl rfl (by kernel_rfl) Try.func3 closed
    (of_decide_eq_true (by kernel_rfl)) (by unfold Func.isWrapper;first|(rw [if_pos (by decide +kernel)];kernel_rfl)|(rw [if_neg (by decide +kernel)];exact⟨rfl,rfl⟩))
    (fun os started H enc _=>lifted os started H enc)
theorem proved:Rows.ScaleTunesSaid:=over
end Go.Proofs.Ytdocpfbfchaekaa
end
