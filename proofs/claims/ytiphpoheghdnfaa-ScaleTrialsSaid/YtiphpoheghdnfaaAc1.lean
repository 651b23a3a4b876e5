/- The code of functions of the program, as abstract code. -/
import Derived.Test.YtiphpoheghdnfaaA43
import Derived.Test.YtiphpoheghdnfaaProg
import Derived.Test.YtiphpoheghdnfaaAc0
import Derived.KernelRfl
set_option maxRecDepth 100000
set_option maxHeartbeats 4000000
namespace Go.Proofs
open Go.Abs
def ac_span_Valid:AC:=.seq (.ops [zo 2 (.mov (.c (.bool false)))] (some [0])) (.seq (.seq (.ops [zo 5 (.mov (.t 0)),zo 6 (.len (.t 5)),zo 7 (.mov (.c (.int .i64 0)))] (some [5,6,7])) (.block 0 (.loop (.seq (.ops [zo 8 (.bin .lss (.t 7) (.t 6))] (some [5,6,7,8])) (.seq (.cond (.t 8) (.skip) (.exit 0)) (.seq (.block 1 (.seq (.ops [zo 9 (.idxSl (.t 5) (.t 7) 4),zo 10 (.loadN (.t 9) 4),zo 4 (.alloc [.int .i64 0,.int .i64 0,.int .i64 0,.int .i64 0]),⟨none,.store (.t 4) 4 (.t 10),none⟩] (some [4,5,6,7])) (.seq (.ops [zo 11 (.fieldAddr (.t 4) 0),zo 12 (.loadN (.t 11) 2),zo 13 (.fieldAddr (.t 4) 2),zo 14 (.loadN (.t 13) 2),zo 15 (.callF F.span_Fits [.t 12,.t 14]),zo 16 (.not (.t 15))] (some [5,6,7,16])) (.cond (.t 16) (.seq (.ops [zo 2 (.mov (.c (.bool false)))] (some [2])) (.ret)) (.skip))))) (.ops [zo 17 (.bin .add (.t 7) (.c (.int .i64 1))),zo 7 (.mov (.t 17))] (some [5,6,7])))))))) (.seq (.ops [zo 2 (.mov (.c (.bool true)))] (some [2])) (.ret)))
theorem ok_span_Valid:FnOK Try.prog F.span_Valid ac_span_Valid [.t 2] 1:=⟨Try.f79,Try.func79,by kernel_rfl,by kernel_rfl,by kernel_rfl,by kernel_rfl⟩
def ac_span_Fits:AC:=.seq (.ops [zo 2 (.box (.t 0)),zo 3 (.box (.t 1)),zo 4 (.mov (.c (.bool false)))] (some [2,3])) (.seq (.ops [zo 5 (.fieldAddr (.t 2) 0),zo 6 (.load1 (.t 5)),zo 7 (.fieldAddr (.t 2) 1),zo 8 (.load1 (.t 7)),zo 9 (.bin .leq (.t 6) (.t 8)),zo 10 (.mov (.t 9)),⟨some 11,.loadN (.t 3) 2,some (10,true)⟩,⟨some 12,.fieldAddr (.t 2) 0,some (10,true)⟩,⟨some 13,.load1 (.t 12),some (10,true)⟩,⟨some 14,.fieldAddr (.t 2) 1,some (10,true)⟩,⟨some 15,.load1 (.t 14),some (10,true)⟩,⟨some 16,.buildSlice [.int .i64 0,.int .i64 0] [(0,1,.t 13),(1,1,.t 15)] 2 1,some (10,true)⟩,⟨some 17,.callF F.span_Within [.t 11,.t 16],some (10,true)⟩,zo 18 (.pick (.t 10) (.t 17) (.c (.bool false))),zo 4 (.mov (.t 18))] (some [4])) (.ret))
theorem ok_span_Fits:FnOK Try.prog F.span_Fits ac_span_Fits [.t 4] 2:=⟨Try.f100,Try.func100,by kernel_rfl,by kernel_rfl,by kernel_rfl,by kernel_rfl⟩
end Go.Proofs
