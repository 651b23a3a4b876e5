/- The code of functions of the program, as abstract code. -/
import Derived.Test.YtfghjepmofkdaaaAc0
import Derived.Test.YtfghjepmofkdaaaProg
import Derived.Test.YtfghjepmofkdaaaAcS0
import Derived.KernelRfl
set_option linter.unusedSimpArgs false
set_option linter.unusedVariables false
set_option maxRecDepth 100000
set_option maxHeartbeats 4000000
namespace Go.Proofs
open Go.Abs
/- math/bits.Len64 -/
def ac_math_bits_Len64 : AC := .seq (.ops [⟨some 2, .mov (.c (.int .i64 0)), none⟩] (some [0, 2])) (.seq (.seq (.ops [⟨some 3, .mov (.t 0), none⟩, ⟨some 4, .bin .geq (.t 3) (.c (.int .u64 4294967296)), none⟩] (some [0, 2, 4])) (.cond (.t 4) (.seq (.ops [⟨some 5, .mov (.t 0), none⟩, ⟨some 6, .shift false (.t 5) (.c (.int .u64 32)), none⟩, ⟨some 0, .mov (.t 6), none⟩] (some [0])) (.ops [⟨some 2, .mov (.c (.int .i64 32)), none⟩] (some [0, 2]))) (.skip))) (.seq (.seq (.ops [⟨some 7, .mov (.t 0), none⟩, ⟨some 8, .bin .geq (.t 7) (.c (.int .u64 65536)), none⟩] (some [0, 2, 8])) (.cond (.t 8) (.seq (.ops [⟨some 9, .mov (.t 0), none⟩, ⟨some 10, .shift false (.t 9) (.c (.int .u64 16)), none⟩, ⟨some 0, .mov (.t 10), none⟩] (some [0, 2])) (.ops [⟨some 11, .mov (.t 2), none⟩, ⟨some 12, .bin .add (.t 11) (.c (.int .i64 16)), none⟩, ⟨some 2, .mov (.t 12), none⟩] (some [0, 2]))) (.skip))) (.seq (.seq (.ops [⟨some 13, .mov (.t 0), none⟩, ⟨some 14, .bin .geq (.t 13) (.c (.int .u64 256)), none⟩] (some [0, 2, 14])) (.cond (.t 14) (.seq (.ops [⟨some 15, .mov (.t 0), none⟩, ⟨some 16, .shift false (.t 15) (.c (.int .u64 8)), none⟩, ⟨some 0, .mov (.t 16), none⟩] (some [0, 2])) (.ops [⟨some 17, .mov (.t 2), none⟩, ⟨some 18, .bin .add (.t 17) (.c (.int .i64 8)), none⟩, ⟨some 2, .mov (.t 18), none⟩] (some [0, 2]))) (.skip))) (.seq (.ops [⟨some 19, .mov (.t 2), none⟩, ⟨some 20, .mov (.t 0), none⟩, ⟨some 21, .conv .u8 (.t 20), none⟩, ⟨some 22, .sIdx (.c (.str (ByteArray.mk #[0, 1, 2, 2, 3, 3, 3, 3, 4, 4, 4, 4, 4, 4, 4, 4, 5, 5, 5, 5, 5, 5, 5, 5, 5, 5, 5, 5, 5, 5, 5, 5, 6, 6, 6, 6, 6, 6, 6, 6, 6, 6, 6, 6, 6, 6, 6, 6, 6, 6, 6, 6, 6, 6, 6, 6, 6, 6, 6, 6, 6, 6, 6, 6, 7, 7, 7, 7, 7, 7, 7, 7, 7, 7, 7, 7, 7, 7, 7, 7, 7, 7, 7, 7, 7, 7, 7, 7, 7, 7, 7, 7, 7, 7, 7, 7, 7, 7, 7, 7, 7, 7, 7, 7, 7, 7, 7, 7, 7, 7, 7, 7, 7, 7, 7, 7, 7, 7, 7, 7, 7, 7, 7, 7, 7, 7, 7, 7, 8, 8, 8, 8, 8, 8, 8, 8, 8, 8, 8, 8, 8, 8, 8, 8, 8, 8, 8, 8, 8, 8, 8, 8, 8, 8, 8, 8, 8, 8, 8, 8, 8, 8, 8, 8, 8, 8, 8, 8, 8, 8, 8, 8, 8, 8, 8, 8, 8, 8, 8, 8, 8, 8, 8, 8, 8, 8, 8, 8, 8, 8, 8, 8, 8, 8, 8, 8, 8, 8, 8, 8, 8, 8, 8, 8, 8, 8, 8, 8, 8, 8, 8, 8, 8, 8, 8, 8, 8, 8, 8, 8, 8, 8, 8, 8, 8, 8, 8, 8, 8, 8, 8, 8, 8, 8, 8, 8, 8, 8, 8, 8, 8, 8, 8, 8, 8, 8, 8, 8, 8, 8, 8, 8, 8, 8, 8, 8]))) (.t 21), none⟩, ⟨some 23, .conv .i64 (.t 22), none⟩, ⟨some 24, .bin .add (.t 19) (.t 23), none⟩, ⟨some 2, .mov (.t 24), none⟩] (some [2])) (.ret)))))
theorem ok_math_bits_Len64 : FnOK Try.prog F.math_bits_Len64 ac_math_bits_Len64 [.t 2] 1 := ⟨Try.f207, Try.func207, by kernel_rfl, by kernel_rfl, by kernel_rfl, by kernel_rfl⟩
end Go.Proofs
