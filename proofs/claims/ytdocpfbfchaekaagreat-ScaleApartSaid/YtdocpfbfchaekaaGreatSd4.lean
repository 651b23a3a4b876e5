/- The law ScaleApart, with alive. -/
import Derived.Test.YtdocpfbfchaekaaGreatSH
import Derived.Test.YtdocpfbfchaekaaGreatOraScz26
namespace Go.Proofs
open Go.Abs
attribute [local simp] AOp.den AOpd.ev lk cellsOf rd_new rd_new0 rd_zero rd_succ wr_new wr_new0 wr_zero wr_succ splice fillA binA scal sliceCells List.length_append argsT AV.sc scL AObj.sc resV getAll AR.get AOp.slots opdSlots opdsSlots partSlots eqAt at_new0 at_new set_new0 set_new wrap64
set_option linter.unusedSimpArgs false
set_option linter.unusedVariables false
theorem c_lawApart (H:Heap) (s:Sc) (one two added:Int) (tid:Nat) (tex:Bool) (ht:rd H tid 0 (s.ts.length * 2)=some (s.ts.flatMap Ti.av)) (ha:0≤added∧added≤65535) :
    ACalls Try.prog F.law04_ScaleApart [.agg (s.av tid 0 tex),.int .i64 one,.int .i64 two,.int .u16 added] H (fun v _=>v=.bool true) :=
  c_lawSA (fun X=>Tryz.true26 X) H s one two added tid tex ht ha
end Go.Proofs
