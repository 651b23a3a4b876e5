/- kreisellaw02.IceLeast answers true: Water and hours of spraying are the least that keep it so.; no other condition. -/
import Derived.Test.YtbfihdpmphlckaaPC
import Derived.Test.YtbfihdpmphlckaaParIceLeast
import Derived.Test.YtbfihdpmphlckaaLK
import Derived.Test.YtbfihdpmphlckaaRows
import Derived.ProofKit
set_option linter.unusedSimpArgs false
set_option linter.unusedVariables false
namespace Go.Proofs.Ytbfihdpmphlckaa
open Go.Abs Go.ChangeShapes Go.WideShapes Go.ChangeAt Go.RowKit
theorem own : ownKnob Try.prog.godebug=none:=by kernel_rfl
theorem laidOut : laidOutB Try.prog=true:=by kernel_rfl
def ks : List (List QK):=[[.sl [.int .i64,.int .i64,.int .i64,.int .i64,.int .i64,.int .i64,.int .i64,.int .u8,.int .i64],.sl [.int .i64,.int .i64,.int .i64],.sl [.int .i64,.int .i64,.int .i64,.int .i64,.bool],.int .i64,.int .i64,.int .i64,.int .i64,.int .i64,.int .i64,.int .i64],[.sl [.int .u32]]]
noncomputable def PA0 : TypeId:=(Try.f4.params.toList.drop 0).headD 0
noncomputable def PA1 : TypeId:=(Try.f4.params.toList.drop 1).headD 0
theorem law (h : Heap) (avs : List AV) (_ : noOwn h) (hl : looks Try.prog h Try.f4.params.toList ks avs) : ACalls Try.prog 4 avs h (fun v _=>v=.bool true):=by
  have e : Try.f4.params.toList=[PA0,PA1]:=by kernel_rfl
  rw [e] at hl
  simp only [looks,ks] at hl
  obtain ⟨_,_,rfl,h0,_,_,rfl,h1,rfl⟩:=hl
  rw [argAgg (t:=PA0) (by kernel_rfl),argOne (t:=PA1) (by kernel_rfl)]
  simp only [lookL,QK.look] at h0 h1
  obtain ⟨_,_,rfl,⟨ida0,rowsa0,rfl,ma0,oa0,ra0⟩,_,_,rfl,⟨idb0,rowsb0,rfl,mb0,ob0,rb0⟩,_,_,rfl,⟨idc0,rowsc0,rfl,mc0,oc0,rc0⟩,_,_,rfl,⟨y0_0,rfl,_⟩,_,_,rfl,⟨y0_1,rfl,_⟩,_,_,rfl,⟨y0_2,rfl,_⟩,_,_,rfl,⟨y0_3,rfl,_⟩,_,_,rfl,⟨y0_4,rfl,_⟩,_,_,rfl,⟨y0_5,rfl,_⟩,_,_,rfl,⟨y0_6,rfl,_⟩,rfl⟩:=h0
  obtain ⟨la0,fa0,na0,ea0⟩:=rowsStr h rowsa0 ra0
  rw [← na0]
  rw [fa0] at oa0
  have ga0:=rd_of oa0
  rw [ea0] at ga0
  have hma0 : (la0.length : Int)≤9223372036854775807:=by
    have h7 : rowsa0.length≤9223372036854775807:=ma0
    omega
  obtain ⟨lb0,fb0,nb0,eb0⟩:=rowsBd h rowsb0 rb0
  rw [← nb0]
  rw [fb0] at ob0
  have gb0:=rd_of ob0
  rw [eb0] at gb0
  have hmb0 : (lb0.length : Int)≤9223372036854775807:=by
    have h7 : rowsb0.length≤9223372036854775807:=mb0
    omega
  obtain ⟨lc0,fc0,nc0,ec0⟩:=rowsHr h rowsc0 rc0
  rw [← nc0]
  rw [fc0] at oc0
  have gc0:=rd_of oc0
  rw [ec0] at gc0
  have hmc0 : (lc0.length : Int)≤9223372036854775807:=by
    have h7 : rowsc0.length≤9223372036854775807:=mc0
    omega
  obtain ⟨_,_,rfl,⟨id1,rows1,rfl,m1,o1,r1⟩,rfl⟩:=h1
  obtain ⟨l1,f1,n1,u1⟩:=rowsInt h rows1 r1
  rw [← n1]
  rw [f1] at o1
  have g1:=rd_of o1
  rw [List.length_map] at g1
  have hm1 : (l1.length : Int)≤9223372036854775807:=by
    have h7 : rows1.length≤9223372036854775807:=m1
    omega
  exact c_lawIL h la0 (⟨lb0,lc0,y0_0,y0_1,y0_2,y0_3,y0_4,y0_5,y0_6⟩ : Cv) (⟨ida0,0,false,la0.length,idb0,0,false,idc0,0,false⟩ : Plc) l1 id1 0 false ⟨rd_lt ga0,gb0,gc0⟩ ⟨rfl,ga0⟩ hma0 hmb0 hmc0 g1 u1 hm1
set_option maxRecDepth 100000 in
theorem lifted (os : Os) (started : os.Started) (H : Type) (enc : TypeId × Value→H) :
    ReturnsInHanded {} Try.checked os 4 .any (Rows.iceLeastSpec.pre6 enc Try.prog Try.f4 Rows.iceLeastRow.domain false) (Rows.iceLeastSpec.post enc Try.prog Try.f4 false true false false):=by
  refine returnsInHanded_of_change (C:=Try.checked) own started (by kernel_rfl) Try.func4
    (ChangeSpec.witness6 (enc:=enc) (C:=Try.checked) false ⟨#[],#[.agg #[.slice none 0 0,.slice none 0 0,.slice none 0 0,.int .i64 0,.int .i64 0,.int .i64 0,.int .i64 0,.int .i64 0,.int .i64 0,.int .i64 0],.slice none 0 0],[]⟩ 8 (by kernel_rfl) (by kernel_rfl) (by kernel_rfl) (by kernel_rfl)) ?_
  intro W base args ds gs before hval hW hcnd _
  exact law_step (n:=9) (ks:=ks) (bt:=Try.f4.resultTypes.toList.headD 0) laidOut (by kernel_rfl) (by kernel_rfl) (by kernel_rfl) (by kernel_rfl) rfl (by
    intro ds hds
    have e : Try.f4.params.toList.length=2:=by kernel_rfl
    rw [e] at hds
    match ds,hds with
    | [a,b],_=>rfl) law W base args ds gs before hval hW
open ParIceLeast
set_option maxRecDepth 100000 in
theorem closed : joinedFacts Try.prog 4 Try.f4 Rows.iceLeastSpec Rows.iceLeastRow=true:=by
  unfold joinedFacts
  exact band (band (band (band (band (band (band (band (band (band (band (band (band (band (band (band (band (band (band (band (band (band (band (band (band (band (band (band (band (band (band (k0) k1) k2) k3) k4) k5) k6) k7) k8) k9) k10) k11) k12) k13) k14) k15) k16) k17) k18) k19) k20) k21) k22) k23) k24) k25) k26) k27) k28) k29) k30) k31
theorem over : Rows.IceLeastSaid :=
  OpenClaim.holds_of_wide 4 Try.f4 rfl rfl rfl rfl rfl rfl rfl ⟨rfl,rfl,rfl,rfl,rfl⟩ rfl rfl rfl rfl rfl (by kernel_rfl) Try.func4 closed
    (of_decide_eq_true (by kernel_rfl)) (by unfold Func.isWrapper; first | (rw [if_pos (by decide +kernel)]; kernel_rfl) | (rw [if_neg (by decide +kernel)]; exact ⟨rfl,rfl⟩))
    (fun os started H enc _=>lifted os started H enc)
theorem proved : Rows.IceLeastSaid:=over
end Go.Proofs.Ytbfihdpmphlckaa
