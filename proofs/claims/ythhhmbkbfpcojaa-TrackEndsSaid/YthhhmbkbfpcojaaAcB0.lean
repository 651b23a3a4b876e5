/- The code of functions of the program, as abstract code. -/
import Derived.Test.YthhhmbkbfpcojaaAc0
import Derived.Test.YthhhmbkbfpcojaaProg
import Derived.KernelRfl
set_option linter.unusedSimpArgs false
set_option linter.unusedVariables false
set_option maxRecDepth 100000
set_option maxHeartbeats 4000000
namespace Go.Proofs
open Go.Abs
abbrev F.law01_TrackMarks : FuncId := 7
abbrev F.law01_TrackSpots : FuncId := 8
abbrev F.ref01_Marks : FuncId := 32
abbrev F.ref01_Drop : FuncId := 33
abbrev F.ref01_Check : FuncId := 35
abbrev F.ref01_SameSpans : FuncId := 36
abbrev F.ref01_Place : FuncId := 37
abbrev F.track_Slope : FuncId := 38
abbrev F.ref01_Slope : FuncId := 39
abbrev F.track_Steepest : FuncId := 40
abbrev F.ref01_Steepest : FuncId := 41
abbrev F.ref01_SameInts : FuncId := 42
abbrev F.ref01_Same : FuncId := 43
abbrev F.ref01_At : FuncId := 44
abbrev F.ref01_Apart : FuncId := 45
abbrev F.track_Join : FuncId := 46
abbrev F.ref01_Join : FuncId := 47
abbrev F.ref01_marks : FuncId := 72
abbrev F.ref01_drop : FuncId := 73
abbrev F.track_pick_api_Stretch : FuncId := 75
abbrev F.track_Steepest_1 : FuncId := 76
abbrev F.ref01_Spot : FuncId := 77
abbrev F.slices_Concat_api_Stretch_api_Stretch : FuncId := 78
abbrev F.slices_Grow_api_Stretch_api_Stretch : FuncId := 93
end Go.Proofs
