/- The code of functions of the program, as abstract code. -/
import Derived.Test.YthhhmbkbfpcojaaAc0
import Derived.Test.YthhhmbkbfpcojaaProg
import Derived.KernelRfl
set_option linter.unusedSimpArgs false
set_option linter.unusedVariables false
set_option maxRecDepth 100000
set_option maxHeartbeats 4000000
namespace Go.Proofs
open Go.Abs
abbrev F.law01_TrackMarks : FuncId := 7
abbrev F.law01_TrackSpots : FuncId := 8
abbrev F.ref01_Marks : FuncId := 32
abbrev F.ref01_Drop : FuncId := 33
abbrev F.ref01_Check : FuncId := 35
abbrev F.ref01_SameSpans : FuncId := 36
abbrev F.ref01_Place : FuncId := 37
abbrev F.track_Slope : FuncId := 38
abbrev F.ref01_Slope : FuncId := 39
abbrev F.track_Steepest : FuncId := 40
abbrev F.ref01_Steepest : FuncId := 41
abbrev F.ref01_SameInts : FuncId := 42
abbrev F.ref01_Same : FuncId := 43
abbrev F.ref01_At : FuncId := 44
abbrev F.ref01_Apart : FuncId := 45
abbrev F.track_Join : FuncId := 46
abbrev F.ref01_Join : FuncId := 47
abbrev F.ref01_marks : FuncId := 72
abbrev F.ref01_drop : FuncId := 73
abbrev F.track_pick_api_Stretch : FuncId := 75
abbrev F.track_Steepest_1 : FuncId := 76
abbrev F.ref01_Spot : FuncId := 77
abbrev F.slices_Concat_api_Stretch_api_Stretch : FuncId := 78
abbrev F.slices_Grow_api_Stretch_api_Stretch : FuncId := 93
/- kreisel/kreiselref01.Same -/
def ac_ref01_Same : AC := .seq (.ops [⟨some 2, .box (.t 0), none⟩, ⟨some 3, .box (.t 1), none⟩, ⟨some 4, .mov (.c (.bool false)), none⟩] (some [2, 3])) (.seq (.seq (.ops [⟨some 6, .fieldAddr (.t 2) 0, none⟩, ⟨some 7, .load1 (.t 6), none⟩, ⟨some 8, .len (.t 7), none⟩, ⟨some 9, .fieldAddr (.t 3) 0, none⟩, ⟨some 10, .load1 (.t 9), none⟩, ⟨some 11, .len (.t 10), none⟩, ⟨some 12, .bin .neq (.t 8) (.t 11), none⟩] (some [2, 3, 12])) (.cond (.t 12) (.seq (.ops [⟨some 4, .mov (.c (.bool false)), none⟩] (some [4])) (.ret)) (.skip))) (.seq (.seq (.ops [⟨some 5, .mov (.c (.int .i64 0)), none⟩] (some [2, 3, 5])) (.block 0 (.loop (.seq (.seq (.ops [⟨some 13, .mov (.t 5), none⟩, ⟨some 14, .fieldAddr (.t 2) 0, none⟩, ⟨some 15, .load1 (.t 14), none⟩, ⟨some 16, .len (.t 15), none⟩, ⟨some 17, .bin .lss (.t 13) (.t 16), none⟩] (some [2, 3, 5, 17])) (.cond (.t 17) (.skip) (.exit 0))) (.seq (.block 1 (.seq (.draw [⟨some 20, .fieldAddr (.t 2) 0, none⟩, ⟨some 21, .load1 (.t 20), none⟩, ⟨some 22, .mov (.t 5), none⟩, ⟨some 23, .idxSl (.t 21) (.t 22) 9, none⟩, ⟨some 24, .loadN (.t 23) 9, none⟩, ⟨some 25, .fieldAddr (.t 3) 0, none⟩, ⟨some 26, .load1 (.t 25), none⟩, ⟨some 27, .mov (.t 5), none⟩, ⟨some 28, .idxSl (.t 26) (.t 27) 9, none⟩, ⟨some 29, .loadN (.t 28) 9, none⟩, ⟨some 30, .eqCells true [(0, .int), (1, .int), (2, .int), (3, .int), (4, .int), (5, .int), (6, .int), (7, .int), (8, .int)] (.t 24) (.t 29), none⟩] [[], [0], [], [1, 2, 0], [3, 1, 2, 0], [], [5], [], [6, 7, 5], [8, 6, 7, 5], [4, 9, 3, 1, 2, 0, 8, 6, 7, 5]] (some [2, 3, 5, 30])) (.cond (.t 30) (.seq (.ops [⟨some 4, .mov (.c (.bool false)), none⟩] (some [4])) (.ret)) (.skip)))) (.ops [⟨some 18, .mov (.t 5), none⟩, ⟨some 19, .bin .add (.t 18) (.c (.int .i64 1)), none⟩, ⟨some 5, .mov (.t 19), none⟩] (some [2, 3, 5]))))))) (.seq (.ops [⟨some 4, .mov (.c (.bool true)), none⟩] (some [4])) (.ret))))
theorem ok_ref01_Same : FnOK Try.prog F.ref01_Same ac_ref01_Same [.t 4] 2 := ⟨Try.f43, Try.func43, by kernel_rfl, by kernel_rfl, by kernel_rfl, by kernel_rfl⟩
end Go.Proofs
