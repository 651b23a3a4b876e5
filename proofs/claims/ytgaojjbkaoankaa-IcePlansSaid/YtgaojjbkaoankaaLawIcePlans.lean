/- kreisellaw02.IcePlans answers true: For any cover, place and span of thickness: what stretches need, the plan, the hours that are short, and the cover after drilling, or the errors, are as the document says, and the cover stays (covers that are not great).; no other condition. -/
import Derived.Test.YtgaojjbkaoankaaPR9
import Derived.Test.YtgaojjbkaoankaaParIcePlans
import Derived.Test.YtgaojjbkaoankaaLK
import Derived.Test.YtgaojjbkaoankaaRows
import Derived.ProofKit
set_option linter.unusedSimpArgs false
set_option linter.unusedVariables false
namespace Go.Proofs.Ytgaojjbkaoankaa
open Go.Abs Go.ChangeShapes Go.WideShapes Go.ChangeAt Go.RowKit
theorem own:ownKnob Try.prog.godebug=none:=by kernel_rfl
theorem laidOut:laidOutB Try.prog=true:=by kernel_rfl
def ks:List (List QK):=[[.sl [.int .i64,.int .i64,.int .i64,.int .i64,.int .i64,.int .i64,.int .i64,.int .u8,.int .i64],.sl [.int .i64,.int .i64,.int .i64],.sl [.int .i64,.int .i64,.int .i64,.int .i64,.bool],.int .i64,.int .i64,.int .i64,.int .i64,.int .i64,.int .i64,.int .i64],[.int .i64],[.int .i64,.int .i64]]
noncomputable def PA0:TypeId:=(Try.f3.params.toList.drop 0).headD 0
noncomputable def PA1:TypeId:=(Try.f3.params.toList.drop 1).headD 0
noncomputable def PA2:TypeId:=(Try.f3.params.toList.drop 2).headD 0
theorem law (h:Heap) (avs:List AV) (_:noOwn h) (hl:looks Try.prog h Try.f3.params.toList ks avs):ACalls Try.prog 3 avs h (fun v _=>v=.bool true):=by
  have e:Try.f3.params.toList=[PA0,PA1,PA2]:=by kernel_rfl
  rw [e] at hl
  simp only [looks,ks] at hl
  obtain⟨_,_,rfl,h0,_,_,rfl,h1,_,_,rfl,h2,rfl⟩:=hl
  rw [argAgg (t:=PA0) (by kernel_rfl),argOne (t:=PA1) (by kernel_rfl),argAgg (t:=PA2) (by kernel_rfl)]
  simp only [lookL,QK.look] at h0 h1 h2
  obtain⟨_,_,rfl,⟨ida0,rowsa0,rfl,ma0,oa0,ra0⟩,_,_,rfl,⟨idb0,rowsb0,rfl,mb0,ob0,rb0⟩,_,_,rfl,⟨idc0,rowsc0,rfl,mc0,oc0,rc0⟩,_,_,rfl,⟨y0_0,rfl,_⟩,_,_,rfl,⟨y0_1,rfl,_⟩,_,_,rfl,⟨y0_2,rfl,_⟩,_,_,rfl,⟨y0_3,rfl,_⟩,_,_,rfl,⟨y0_4,rfl,_⟩,_,_,rfl,⟨y0_5,rfl,_⟩,_,_,rfl,⟨y0_6,rfl,_⟩,rfl⟩:=h0
  obtain⟨la0,fa0,na0,ea0⟩:=rowsStr h rowsa0 ra0
  rw [← na0]
  rw [fa0] at oa0
  have ga0:=rd_of oa0
  rw [ea0] at ga0
  have hma0:(la0.length:Int)≤9223372036854775807:=by
    have h7:rowsa0.length≤9223372036854775807:=ma0
    omega
  obtain⟨lb0,fb0,nb0,eb0⟩:=rowsBd h rowsb0 rb0
  rw [← nb0]
  rw [fb0] at ob0
  have gb0:=rd_of ob0
  rw [eb0] at gb0
  have hmb0:(lb0.length:Int)≤9223372036854775807:=by
    have h7:rowsb0.length≤9223372036854775807:=mb0
    omega
  obtain⟨lc0,fc0,nc0,ec0⟩:=rowsHr h rowsc0 rc0
  rw [← nc0]
  rw [fc0] at oc0
  have gc0:=rd_of oc0
  rw [ec0] at gc0
  have hmc0:(lc0.length:Int)≤9223372036854775807:=by
    have h7:rowsc0.length≤9223372036854775807:=mc0
    omega
  obtain⟨_,_,rfl,⟨a1,rfl,p1,q1⟩,rfl⟩:=h1
  obtain⟨_,_,rfl,⟨a2,rfl,p2,q2⟩,_,_,rfl,⟨b2,rfl,r2,s2⟩,rfl⟩:=h2
  exact c_lawIP h la0 (⟨lb0,lc0,y0_0,y0_1,y0_2,y0_3,y0_4,y0_5,y0_6⟩:Cv) (⟨ida0,0,false,la0.length,idb0,0,false,idc0,0,false⟩:Plc) a1 a2 b2 ⟨rd_lt ga0,gb0,gc0⟩ ⟨rfl,ga0⟩ hma0 hmb0 hmc0 ⟨p1,q1⟩ ⟨p2,q2⟩ ⟨r2,s2⟩
set_option maxRecDepth 100000 in
theorem lifted (os:Os) (started:os.Started) (H:Type) (enc:TypeId × Value→H) :
    ReturnsInHanded {} Try.checked os 3 .any (Rows.icePlansSpec.pre6 enc Try.prog Try.f3 Rows.icePlansRow.domain false) (Rows.icePlansSpec.post enc Try.prog Try.f3 false true false false):=by
  refine returnsInHanded_of_change (C:=Try.checked) own started (by kernel_rfl) Try.func3
    (ChangeSpec.witness6 (enc:=enc) (C:=Try.checked) false ⟨#[],#[.agg #[.slice none 0 0,.slice none 0 0,.slice none 0 0,.int .i64 0,.int .i64 0,.int .i64 0,.int .i64 0,.int .i64 0,.int .i64 0,.int .i64 0],.int .i64 0,.agg #[.int .i64 0,.int .i64 0]],[]⟩ 8 (by kernel_rfl) (by kernel_rfl) (by kernel_rfl) (by kernel_rfl)) ?_
  intro W base args ds gs before hval hW hcnd _
  exact law_step (n:=9) (ks:=ks) (bt:=Try.f3.resultTypes.toList.headD 0) laidOut (by kernel_rfl) (by kernel_rfl) (by kernel_rfl) (by kernel_rfl) rfl (by
    intro ds hds
    have e:Try.f3.params.toList.length=3:=by kernel_rfl
    rw [e] at hds
    match ds,hds with
    | [a,b,c],_=>rfl) law W base args ds gs before hval hW
open ParIcePlans
set_option maxRecDepth 100000 in
theorem closed:joinedFacts Try.prog 3 Try.f3 Rows.icePlansSpec Rows.icePlansRow=true:=by
  unfold joinedFacts
  exact band (band (band (band (band (band (band (band (band (band (band (band (band (band (band (band (band (band (band (band (band (band (band (band (band (band (band (band (band (band (band (k0) k1) k2) k3) k4) k5) k6) k7) k8) k9) k10) k11) k12) k13) k14) k15) k16) k17) k18) k19) k20) k21) k22) k23) k24) k25) k26) k27) k28) k29) k30) k31
theorem over:Rows.IcePlansSaid :=
  OpenClaim.holds_of_wide 3 Try.f3 rfl rfl rfl rfl rfl rfl rfl ⟨rfl,rfl,rfl,rfl,rfl⟩ rfl rfl rfl rfl rfl (by kernel_rfl) Try.func3 closed
    (of_decide_eq_true (by kernel_rfl)) (by unfold Func.isWrapper;first|(rw [if_pos (by decide +kernel)];kernel_rfl)|(rw [if_neg (by decide +kernel)];exact⟨rfl,rfl⟩))
    (fun os started H enc _=>lifted os started H enc)
theorem proved:Rows.IcePlansSaid:=over
end Go.Proofs.Ytgaojjbkaoankaa
