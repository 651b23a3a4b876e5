/- kreisellaw04.ScaleApart answers true: loads on one scale have no totals that they would not have on two scales that are alike; no other condition. -/
import Derived.Test.YtdocpfbfchaekaaGreatSd4
import Derived.Test.YtdocpfbfchaekaaGreatParScaleApart
import Derived.Test.YtdocpfbfchaekaaGreatLK
import Derived.Test.YtdocpfbfchaekaaGreatRows
import Derived.ProofKit
set_option linter.unusedSimpArgs false
set_option linter.unusedVariables false
noncomputable section
namespace Go.Proofs.YtdocpfbfchaekaaGreat
open Go.Abs Go.ChangeShapes Go.WideShapes Go.ChangeAt Go.RowKit
theorem own:ownKnob Tryz.prog.godebug=none:=by kernel_rfl
theorem laidOut:laidOutB Tryz.prog=true:=by kernel_rfl
def ks:List (List QK):=[[.int .i64,.int .i64,.int .i64,.int .i64,.int .i64,.int .i64,.sl [.int .i64,.int .i64]],[.int .i64],[.int .i64],[.int .u16]]
def PA0:TypeId:=(Tryz.f10.params.toList.drop 0).headD 0
def PA1:TypeId:=(Tryz.f10.params.toList.drop 1).headD 0
def PA2:TypeId:=(Tryz.f10.params.toList.drop 2).headD 0
def PA3:TypeId:=(Tryz.f10.params.toList.drop 3).headD 0
theorem law (h:Heap) (avs:List AV) (_:noOwn h) (hl:looks Tryz.prog h Tryz.f10.params.toList ks avs):ACalls Tryz.prog 10 avs h (fun v _=>v=.bool true):=by
  have e:Tryz.f10.params.toList=[PA0,PA1,PA2,PA3]:=by kernel_rfl
  rw [e] at hl
  simp only [looks,ks] at hl
  obtain⟨_,_,rfl,h0,_,_,rfl,h1,_,_,rfl,h2,_,_,rfl,h3,rfl⟩:=hl
  rw [argAgg (t:=PA0) (by kernel_rfl),argOne (t:=PA1) (by kernel_rfl),argOne (t:=PA2) (by kernel_rfl),argOne (t:=PA3) (by kernel_rfl)]
  simp only [lookL,QK.look] at h0 h1 h2 h3
  obtain⟨_,_,rfl,⟨y0_0,rfl,_⟩,_,_,rfl,⟨y0_1,rfl,_⟩,_,_,rfl,⟨y0_2,rfl,_⟩,_,_,rfl,⟨y0_3,rfl,_⟩,_,_,rfl,⟨y0_4,rfl,_⟩,_,_,rfl,⟨y0_5,rfl,_⟩,_,_,rfl,⟨id0,rows0,rfl,m0,o0,r0⟩,rfl⟩:=h0
  obtain⟨l0,f0,n0,e0⟩:=rowsTi h rows0 r0
  rw [← n0]
  rw [f0] at o0
  have g0:=rd_of o0
  rw [e0] at g0
  obtain⟨_,_,rfl,⟨a1,rfl,p1,q1⟩,rfl⟩:=h1
  obtain⟨_,_,rfl,⟨a2,rfl,p2,q2⟩,rfl⟩:=h2
  obtain⟨_,_,rfl,⟨a3,rfl,p3,q3⟩,rfl⟩:=h3
  exact c_lawApart h (⟨y0_0,y0_1,y0_2,y0_3,y0_4,y0_5,l0⟩:Sc) a1 a2 a3 id0 false g0 ⟨p3,q3⟩
set_option maxRecDepth 100000 in
theorem lifted (os:Os) (started:os.Started) (H:Type) (enc:TypeId × Value→H) :
    ReturnsInHanded {} Tryz.checked os 10 .any (Rows.scaleApartSpec.pre6 enc Tryz.prog Tryz.f10 Rows.scaleApartRow.domain false) (Rows.scaleApartSpec.post enc Tryz.prog Tryz.f10 false true false false):=by
  refine returnsInHanded_of_change (C:=Tryz.checked) own started (by kernel_rfl) Tryz.func10
    (ChangeSpec.witness6 (enc:=enc) (C:=Tryz.checked) false ⟨#[],#[.agg #[.int .i64 0,.int .i64 0,.int .i64 0,.int .i64 0,.int .i64 0,.int .i64 0,.slice none 0 0],.int .i64 0,.int .i64 0,.int .u16 0],[]⟩ 8 (by kernel_rfl) (by kernel_rfl) (by kernel_rfl) (by kernel_rfl)) ?_
  intro W base args ds gs before hval hW hcnd _
  exact law_step (n:=9) (ks:=ks) (bt:=Tryz.f10.resultTypes.toList.headD 0) laidOut (by kernel_rfl) (by kernel_rfl) (by kernel_rfl) (by kernel_rfl) rfl (by
    intro ds hds
    have e:Tryz.f10.params.toList.length=4:=by kernel_rfl
    rw [e] at hds
    match ds,hds with
    | [a,b,c,d],_=>rfl) law W base args ds gs before hval hW
open ParScaleApart
set_option maxRecDepth 100000 in
theorem closed:joinedFacts Tryz.prog 10 Tryz.f10 Rows.scaleApartSpec Rows.scaleApartRow=true:=by
  unfold joinedFacts
  exact band (band (band (band (band (band (band (band (band (band (band (band (band (band (band (band (band (band (band (band (band (band (band (band (band (band (band (band (band (band (band (k0) k1) k2) k3) k4) k5) k6) k7) k8) k9) k10) k11) k12) k13) k14) k15) k16) k17) k18) k19) k20) k21) k22) k23) k24) k25) k26) k27) k28) k29) k30) k31
theorem over:Rows.ScaleApartSaid :=
  OpenClaim.holds_of_wide 10 Tryz.f10 rfl rfl rfl rfl rfl rfl rfl ⟨rfl,rfl,rfl,rfl,rfl⟩ rfl rfl rfl rfl rfl (by kernel_rfl) Tryz.func10 closed
    (of_decide_eq_true (by kernel_rfl)) (by unfold Func.isWrapper;first|(rw [if_pos (by decide +kernel)];kernel_rfl)|(rw [if_neg (by decide +kernel)];exact⟨rfl,rfl⟩))
    (fun os started H enc _=>lifted os started H enc)
theorem proved:Rows.ScaleApartSaid:=over
end Go.Proofs.YtdocpfbfchaekaaGreat
end
