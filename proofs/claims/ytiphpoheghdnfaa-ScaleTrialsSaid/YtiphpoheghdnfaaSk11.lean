/- The law ScaleTrials. -/
import Derived.Test.YtiphpoheghdnfaaSk10
import Derived.Test.YtiphpoheghdnfaaOraSc15
namespace Go.Proofs
open Go.Abs
attribute [local simp] AOp.den AOpd.ev lk cellsOf rd_new rd_new0 rd_zero rd_succ wr_new wr_new0 wr_zero wr_succ splice fillA binA scal sliceCells List.length_append argsT AV.sc scL AObj.sc resV getAll AR.get AOp.slots opdSlots opdsSlots partSlots eqAt at_new0 at_new set_new0 set_new wrap64
set_option linter.unusedSimpArgs false
set_option linter.unusedVariables false
theorem c_lawTrials (H:Heap) (s:Sc) (gain off weight mw mn:Int) (tid toff:Nat) (ex:Bool) (ht:rd H tid toff (s.ts.length * 2)=some (s.ts.flatMap Ti.av)) (hn:(s.ts.length:Int)≤9223372036854775807)
    (hg:0≤gain∧gain≤255) (hof:0≤off∧off≤255) (hwt:0≤weight∧weight≤4294967295) (hmw:-9223372036854775808≤mw∧mw≤9223372036854775807) (hmn:-9223372036854775808≤mn∧mn≤9223372036854775807) :
    ACalls Try.prog F.law04_ScaleTrials [.agg (s.av tid toff ex),.int .u8 gain,.int .u8 off,.int .u32 weight,.agg [.int .i64 mw,.int .i64 mn]] H (fun v _=>v=.bool true) :=
  c_lawTr Try.true15 H s tid toff ex gain off weight mw mn ht hn hg hof hwt hmw hmn
end Go.Proofs
