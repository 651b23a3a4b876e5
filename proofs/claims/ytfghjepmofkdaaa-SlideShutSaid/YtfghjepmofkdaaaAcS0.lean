/- The code of functions of the program, as abstract code. -/
import Derived.Test.YtfghjepmofkdaaaAc0
import Derived.Test.YtfghjepmofkdaaaProg
import Derived.KernelRfl
set_option linter.unusedSimpArgs false
set_option linter.unusedVariables false
set_option maxRecDepth 100000
set_option maxHeartbeats 4000000
namespace Go.Proofs
open Go.Abs
abbrev F.law03_SlideWithin : FuncId := 6
abbrev F.law03_SlideEnds : FuncId := 7
abbrev F.law03_SlideThrown : FuncId := 8
abbrev F.law03_SlideMore : FuncId := 9
abbrev F.law03_SlideStart : FuncId := 10
abbrev F.law03_SlideWalls : FuncId := 11
abbrev F.law03_SlideShut : FuncId := 12
abbrev F.law03_SlideLeast : FuncId := 13
abbrev F.law03_alive : FuncId := 31
abbrev F.slide_Walls : FuncId := 33
abbrev F.slide_Least : FuncId := 36
abbrev F.law03_span : FuncId := 38
abbrev F.slide_Heads : FuncId := 39
abbrev F.slide_Speed : FuncId := 40
abbrev F.slide_Height : FuncId := 41
abbrev F.slide_Names : FuncId := 42
abbrev F.slide_Safe : FuncId := 43
abbrev F.slide_Shut : FuncId := 44
abbrev F.slide_Start : FuncId := 45
abbrev F.law03_ready : FuncId := 47
abbrev F.law03_truth : FuncId := 48
abbrev F.law03_inside : FuncId := 49
abbrev F.law03_ends : FuncId := 50
abbrev F.law03_wider : FuncId := 51
abbrev F.ref03_Sled : FuncId := 52
abbrev F.law03_SlideStart_1 : FuncId := 54
abbrev F.law03_some : FuncId := 58
abbrev F.law03_choose : FuncId := 59
abbrev F.slide_checkAll : FuncId := 101
abbrev F.slide_slider_fastest : FuncId := 102
abbrev F.slide_truth_within : FuncId := 103
abbrev F.slide_straight : FuncId := 104
abbrev F.slide_truth_height : FuncId := 105
abbrev F.slide_speedUp : FuncId := 106
abbrev F.slide_truth_long : FuncId := 107
abbrev F.slide_slider_slowest : FuncId := 108
abbrev F.slide_truth_heads : FuncId := 109
abbrev F.slide_speedOf : FuncId := 110
abbrev F.slide_truth_throwing : FuncId := 111
abbrev F.slide_first_int : FuncId := 112
abbrev F.slide_Names_1 : FuncId := 113
abbrev F.slide_truth_throws : FuncId := 114
abbrev F.slide_slider_safe : FuncId := 115
abbrev F.slide_Start_1 : FuncId := 116
abbrev F.slide_right : FuncId := 117
abbrev F.ref03_Next : FuncId := 118
abbrev F.ref03_within : FuncId := 119
abbrev F.ref03_span : FuncId := 120
abbrev F.span_High : FuncId := 137
abbrev F.span_Low : FuncId := 138
abbrev F.slide_speedUp_1 : FuncId := 153
abbrev F.slide_truth_heads_1 : FuncId := 154
abbrev F.slide_truth_next : FuncId := 155
abbrev F.slide_speedOf_1 : FuncId := 156
abbrev F.slices_Sorted_int : FuncId := 157
abbrev F.maps_Keys_map_int_int_int_int : FuncId := 158
abbrev F.span_Valid : FuncId := 159
abbrev F.slide_limits : FuncId := 160
abbrev F.slide_forces : FuncId := 175
abbrev F.slices_Collect_int : FuncId := 176
abbrev F.slices_Sort_int_int : FuncId := 177
abbrev F.maps_Keys_map_int_int_int_int_1 : FuncId := 178
abbrev F.cmp_isNaN_int : FuncId := 189
abbrev F.slide_forces_1 : FuncId := 190
abbrev F.slide_truth_air : FuncId := 191
abbrev F.slide_truth_fall : FuncId := 192
abbrev F.slide_truth_ice : FuncId := 193
abbrev F.slices_AppendSeq_int_int : FuncId := 194
abbrev F.slices_pdqsortOrdered_int : FuncId := 195
abbrev F.math_bits_Len : FuncId := 196
abbrev F.slices_insertionSortOrdered_int : FuncId := 197
abbrev F.slices_heapSortOrdered_int : FuncId := 198
abbrev F.slices_breakPatternsOrdered_int : FuncId := 199
abbrev F.slices_choosePivotOrdered_int : FuncId := 200
abbrev F.slices_reverseRangeOrdered_int : FuncId := 201
abbrev F.slices_partialInsertionSortOrdered_int : FuncId := 202
abbrev F.cmp_Less_int : FuncId := 203
abbrev F.slices_partitionEqualOrdered_int : FuncId := 204
abbrev F.slices_partitionOrdered_int : FuncId := 205
abbrev F.math_bits_Len32 : FuncId := 206
abbrev F.math_bits_Len64 : FuncId := 207
abbrev F.slices_siftDownOrdered_int : FuncId := 208
abbrev F.slices_nextPowerOfTwo : FuncId := 209
abbrev F.slices_xorshift_Next : FuncId := 210
abbrev F.slices_medianAdjacentOrdered_int : FuncId := 211
abbrev F.slices_medianOrdered_int : FuncId := 212
abbrev F.slices_order2Ordered_int : FuncId := 213
/- kreisel/kreisellaw03.SlideShut -/
def ac_law03_SlideShut : AC := .seq (.ops [⟨some 2, .box (.t 0), none⟩, ⟨some 4, .mov (.c (.bool false)), none⟩] (some [1, 2])) (.seq (.ops [⟨some 19, .callF F.law03_alive [], none⟩, ⟨some 5, .mov (.t 19), none⟩] (some [1, 2, 5])) (.seq (.seq (.ops [⟨some 20, .loadN (.t 2) 1, none⟩, ⟨some 21, .callF F.ref01_Great [.t 20], none⟩, ⟨some 22, .mov (.t 21), none⟩, ⟨some 23, .loadN (.t 2) 1, some (22, false)⟩, ⟨some 24, .callF F.ref01_Track [.t 23], some (22, false)⟩, ⟨some 25, .not (.t 24), some (22, false)⟩, ⟨some 26, .pick (.t 22) (.c (.bool true)) (.t 25), none⟩, ⟨some 27, .mov (.t 26), none⟩, ⟨some 28, .mov (.t 1), some (27, false)⟩, ⟨some 29, .len (.t 28), some (27, false)⟩, ⟨some 30, .bin .gtr (.t 29) (.c (.int .i64 6)), some (27, false)⟩, ⟨some 31, .pick (.t 27) (.c (.bool true)) (.t 30), none⟩, ⟨some 32, .mov (.t 31), none⟩, ⟨some 33, .mov (.t 5), some (32, false)⟩, ⟨some 34, .not (.t 33), some (32, false)⟩, ⟨some 35, .pick (.t 32) (.c (.bool true)) (.t 34), none⟩] (some [1, 2, 5, 35])) (.cond (.t 35) (.seq (.ops [⟨some 36, .mov (.t 5), none⟩, ⟨some 4, .mov (.t 36), none⟩] (some [4])) (.ret)) (.skip))) (.seq (.seq (.ops [⟨some 37, .mov (.t 1), none⟩, ⟨some 38, .len (.t 37), none⟩, ⟨some 39, .mov (.c (.int .i64 0)), none⟩] (some [1, 2, 5, 37, 38, 39])) (.block 0 (.loop (.seq (.ops [⟨some 40, .bin .lss (.t 39) (.t 38), none⟩] (some [1, 2, 5, 37, 38, 39, 40])) (.seq (.cond (.t 40) (.skip) (.exit 0)) (.seq (.block 1 (.seq (.ops [⟨some 41, .idxSl (.t 37) (.t 39) 11, none⟩, ⟨some 42, .loadN (.t 41) 11, none⟩, ⟨some 7, .alloc [.int .u8 0, .int .i64 0, .int .i64 0, .int .i64 0, .int .i64 0, .int .i64 0, .int .i64 0, .int .i64 0, .int .i64 0, .int .i64 0, .int .i64 0], none⟩, ⟨none, .store (.t 7) 11 (.t 42), none⟩] (some [1, 2, 5, 7, 37, 38, 39])) (.seq (.ops [⟨some 43, .loadN (.t 7) 11, none⟩, ⟨some 44, .callF F.ref03_Sled [.t 43], none⟩, ⟨some 45, .not (.t 44), none⟩] (some [1, 2, 5, 37, 38, 39, 45])) (.cond (.t 45) (.seq (.ops [⟨some 46, .mov (.t 5), none⟩, ⟨some 4, .mov (.t 46), none⟩] (some [4])) (.ret)) (.skip))))) (.ops [⟨some 47, .bin .add (.t 39) (.c (.int .i64 1)), none⟩, ⟨some 39, .mov (.t 47), none⟩] (some [1, 2, 5, 37, 38, 39])))))))) (.seq (.ops [⟨some 49, .loadN (.t 2) 1, none⟩, ⟨some 50, .mov (.t 1), none⟩, ⟨some 51, .callF F.slide_Shut [.t 49, .t 50], none⟩, ⟨some 48, .mov (.t 51), none⟩, ⟨some 52, .extract (.t 48) 0, none⟩, ⟨some 53, .extract (.t 48) 1, none⟩, ⟨some 8, .mov (.t 52), none⟩, ⟨some 9, .mov (.t 53), none⟩] (some [1, 2, 5, 8, 9])) (.seq (.seq (.ops [⟨some 54, .mov (.t 9), none⟩, ⟨some 55, .bin .neq (.t 54) (.c (.int .i64 0)), none⟩] (some [1, 2, 5, 8, 55])) (.cond (.t 55) (.seq (.ops [⟨some 4, .mov (.c (.bool false)), none⟩] (some [4])) (.ret)) (.skip))) (.seq (.ops [⟨some 10, .mov (.c (.int .i64 0)), none⟩] (some [1, 2, 5, 8, 10])) (.seq (.seq (.ops [⟨some 56, .mov (.t 1), none⟩, ⟨some 57, .len (.t 56), none⟩, ⟨some 58, .mov (.c (.int .i64 0)), none⟩] (some [2, 5, 8, 10, 56, 57, 58])) (.block 2 (.loop (.seq (.ops [⟨some 59, .bin .lss (.t 58) (.t 57), none⟩] (some [2, 5, 8, 10, 56, 57, 58, 59])) (.seq (.cond (.t 59) (.skip) (.exit 2)) (.seq (.block 3 (.seq (.ops [⟨some 60, .mov (.t 58), none⟩, ⟨some 61, .idxSl (.t 56) (.t 58) 11, none⟩, ⟨some 62, .loadN (.t 61) 11, none⟩, ⟨some 12, .alloc [.int .u8 0, .int .i64 0, .int .i64 0, .int .i64 0, .int .i64 0, .int .i64 0, .int .i64 0, .int .i64 0, .int .i64 0, .int .i64 0, .int .i64 0], none⟩, ⟨some 11, .mov (.t 60), none⟩, ⟨none, .store (.t 12) 11 (.t 62), none⟩] (some [2, 5, 8, 10, 11, 12, 56, 57, 58])) (.seq (.ops [⟨some 64, .loadN (.t 2) 1, none⟩, ⟨some 65, .loadN (.t 12) 11, none⟩, ⟨some 66, .callF F.slide_Safe [.t 64, .t 65], none⟩, ⟨some 63, .mov (.t 66), none⟩, ⟨some 67, .extract (.t 63) 0, none⟩, ⟨some 68, .extract (.t 63) 1, none⟩, ⟨some 13, .mov (.t 67), none⟩, ⟨some 14, .mov (.t 68), none⟩] (some [2, 5, 8, 10, 11, 12, 13, 14, 56, 57, 58])) (.seq (.ops [⟨some 70, .loadN (.t 2) 1, none⟩, ⟨some 71, .loadN (.t 12) 11, none⟩, ⟨some 72, .callF F.slide_Names [.t 70, .t 71], none⟩, ⟨some 69, .mov (.t 72), none⟩, ⟨some 73, .extract (.t 69) 0, none⟩, ⟨some 74, .extract (.t 69) 1, none⟩, ⟨some 75, .extract (.t 69) 2, none⟩, ⟨some 15, .mov (.t 73), none⟩, ⟨some 16, .mov (.t 74), none⟩, ⟨some 17, .mov (.t 75), none⟩] (some [2, 5, 8, 10, 11, 13, 14, 15, 17, 56, 57, 58])) (.seq (.ops [⟨some 76, .mov (.t 10), none⟩, ⟨some 77, .mov (.t 8), none⟩, ⟨some 78, .len (.t 77), none⟩, ⟨some 79, .bin .lss (.t 76) (.t 78), none⟩, ⟨some 80, .mov (.t 79), none⟩, ⟨some 81, .mov (.t 8), some (80, true)⟩, ⟨some 82, .mov (.t 10), some (80, true)⟩, ⟨some 83, .idxSl (.t 81) (.t 82) 1, some (80, true)⟩, ⟨some 84, .load1 (.t 83), some (80, true)⟩, ⟨some 85, .mov (.t 11), some (80, true)⟩, ⟨some 86, .bin .eql (.t 84) (.t 85), some (80, true)⟩, ⟨some 87, .pick (.t 80) (.t 86) (.c (.bool false)), none⟩, ⟨some 18, .mov (.t 87), none⟩] (some [2, 5, 8, 10, 13, 14, 15, 17, 18, 56, 57, 58])) (.seq (.seq (.ops [⟨some 88, .mov (.t 18), none⟩] (some [2, 5, 8, 10, 13, 14, 15, 17, 18, 56, 57, 58, 88])) (.cond (.t 88) (.ops [⟨some 89, .mov (.t 10), none⟩, ⟨some 90, .bin .add (.t 89) (.c (.int .i64 1)), none⟩, ⟨some 10, .mov (.t 90), none⟩] (some [2, 5, 8, 10, 13, 14, 15, 17, 18, 56, 57, 58])) (.skip))) (.seq (.ops [⟨some 91, .mov (.t 14), none⟩, ⟨some 92, .bin .neq (.t 91) (.c (.int .i64 0)), none⟩, ⟨some 93, .mov (.t 92), none⟩, ⟨some 94, .mov (.t 18), some (93, false)⟩, ⟨some 95, .mov (.t 13), some (93, false)⟩, ⟨some 96, .bin .neq (.t 95) (.c (.int .u8 2)), some (93, false)⟩, ⟨some 97, .eqv (.bool) true (.t 94) (.t 96), some (93, false)⟩, ⟨some 98, .pick (.t 93) (.c (.bool true)) (.t 97), none⟩, ⟨some 99, .mov (.t 98), none⟩, ⟨some 100, .mov (.t 18), some (99, false)⟩, ⟨some 101, .mov (.t 17), some (99, false)⟩, ⟨some 102, .bin .eql (.t 101) (.c (.int .i64 0)), some (99, false)⟩, ⟨some 103, .eqv (.bool) true (.t 100) (.t 102), some (99, false)⟩, ⟨some 104, .pick (.t 99) (.c (.bool true)) (.t 103), none⟩, ⟨some 105, .mov (.t 104), none⟩, ⟨some 106, .mov (.t 18), some (105, false)⟩, ⟨some 107, .mov (.t 106), some (105, false)⟩, ⟨some 108, .mov (.t 15), some (107, true)⟩, ⟨some 109, .bin .lss (.t 108) (.c (.int .i64 0)), some (107, true)⟩, ⟨some 110, .mov (.t 109), some (107, true)⟩, ⟨some 111, .mov (.t 15), some (110, false)⟩, ⟨some 112, .fieldAddr (.t 2) 0, some (110, false)⟩, ⟨some 113, .load1 (.t 112), some (110, false)⟩, ⟨some 114, .len (.t 113), some (110, false)⟩, ⟨some 115, .bin .geq (.t 111) (.t 114), some (110, false)⟩, ⟨some 116, .pick (.t 110) (.c (.bool true)) (.t 115), some (107, true)⟩, ⟨some 117, .pick (.t 107) (.t 116) (.c (.bool false)), some (105, false)⟩, ⟨some 118, .pick (.t 105) (.c (.bool true)) (.t 117), none⟩] (some [2, 5, 8, 10, 56, 57, 58, 118])) (.cond (.t 118) (.seq (.ops [⟨some 4, .mov (.c (.bool false)), none⟩] (some [4])) (.ret)) (.skip))))))))) (.ops [⟨some 119, .bin .add (.t 58) (.c (.int .i64 1)), none⟩, ⟨some 58, .mov (.t 119), none⟩] (some [2, 5, 8, 10, 56, 57, 58])))))))) (.seq (.ops [⟨some 120, .mov (.t 5), none⟩, ⟨some 121, .mov (.t 120), none⟩, ⟨some 122, .mov (.t 10), some (121, true)⟩, ⟨some 123, .mov (.t 8), some (121, true)⟩, ⟨some 124, .len (.t 123), some (121, true)⟩, ⟨some 125, .bin .eql (.t 122) (.t 124), some (121, true)⟩, ⟨some 126, .pick (.t 121) (.t 125) (.c (.bool false)), none⟩, ⟨some 4, .mov (.t 126), none⟩] (some [4])) (.ret)))))))))
theorem ok_law03_SlideShut : FnOK Try.prog F.law03_SlideShut ac_law03_SlideShut [.t 4] 2 := ⟨Try.f12, Try.func12, by kernel_rfl, by kernel_rfl, by kernel_rfl, by kernel_rfl⟩
/- kreisel/slide.Names -/
def ac_slide_Names : AC := .seq (.ops [⟨some 2, .box (.t 0), none⟩, ⟨some 3, .box (.t 1), none⟩, ⟨some 4, .alloc [.int .i64 0], none⟩, ⟨some 5, .mov (.c (.int .i64 0)), none⟩, ⟨some 6, .mov (.c (.int .i64 0)), none⟩] (some [2, 3, 4])) (.seq (.seq (.ops [⟨some 11, .loadN (.t 2) 1, none⟩, ⟨some 12, .loadN (.t 3) 11, none⟩, ⟨some 13, .buildSlice [.int .u8 0, .int .i64 0, .int .i64 0, .int .i64 0, .int .i64 0, .int .i64 0, .int .i64 0, .int .i64 0, .int .i64 0, .int .i64 0, .int .i64 0] [(0, 11, .t 12)] 1 11, none⟩, ⟨some 14, .callF F.slide_checkAll [.t 11, .t 13], none⟩, ⟨some 7, .mov (.t 14), none⟩] (some [2, 3, 4, 7])) (.seq (.ops [⟨some 15, .mov (.t 7), none⟩, ⟨some 16, .bin .neq (.t 15) (.c (.int .i64 0)), none⟩] (some [2, 3, 4, 7, 16])) (.cond (.t 16) (.seq (.ops [⟨some 17, .mov (.t 7), none⟩, ⟨none, .store (.t 4) 1 (.c (.int .i64 0)), none⟩, ⟨some 5, .mov (.c (.int .i64 0)), none⟩, ⟨some 6, .mov (.t 17), none⟩] (some [4, 5, 6])) (.ret)) (.skip)))) (.seq (.ops [⟨some 18, .loadN (.t 3) 11, none⟩, ⟨some 19, .fieldAddr (.t 2) 0, none⟩, ⟨some 20, .load1 (.t 19), none⟩, ⟨some 21, .build [.int .u8 0, .int .i64 0, .int .i64 0, .int .i64 0, .int .i64 0, .int .i64 0, .int .i64 0, .int .i64 0, .int .i64 0, .int .i64 0, .int .i64 0, .nilslice] [(0, 11, .t 18), (11, 1, .t 20)], none⟩, ⟨some 22, .callF F.slide_slider_fastest [.t 21], none⟩, ⟨some 8, .alloc [.int .u8 0, .int .i64 0, .int .i64 0, .int .i64 0, .int .i64 0, .int .i64 0, .int .i64 0, .int .i64 0, .int .i64 0, .int .i64 0, .int .i64 0, .nilslice, .nilfn, .nilfn], none⟩, ⟨none, .store (.t 8) 14 (.t 22), none⟩] (some [4, 8])) (.seq (.ops [⟨some 23, .loadN (.t 8) 14, none⟩, ⟨some 24, .callF F.slide_truth_throwing [.t 23], none⟩, ⟨some 9, .mov (.t 24), none⟩] (some [4, 8, 9])) (.seq (.seq (.ops [⟨some 25, .mov (.t 9), none⟩, ⟨some 26, .len (.t 25), none⟩, ⟨some 27, .bin .eql (.t 26) (.c (.int .i64 0)), none⟩] (some [4, 8, 9, 27])) (.cond (.t 27) (.seq (.ops [⟨none, .store (.t 4) 1 (.c (.int .i64 0)), none⟩, ⟨some 5, .mov (.c (.int .i64 0)), none⟩, ⟨some 6, .mov (.c (.int .i64 6)), none⟩] (some [4, 5, 6])) (.ret)) (.skip))) (.seq (.ops [⟨some 28, .mov (.t 9), none⟩, ⟨some 29, .idxSl (.t 28) (.c (.int .i64 0)) 1, none⟩, ⟨some 30, .load1 (.t 29), none⟩, ⟨none, .store (.t 4) 1 (.t 30), none⟩] (some [4, 8])) (.seq (.draw [⟨some 31, .loadN (.t 8) 14, none⟩, ⟨some 32, .callF F.slide_truth_within [.t 31], none⟩, ⟨some 33, .load1 (.t 4), none⟩, ⟨some 34, .idxSl (.t 32) (.t 33) 1, none⟩, ⟨some 35, .load1 (.t 34), none⟩, ⟨some 36, .mkfn (.func F.slide_Names_1) [] [.t 8, .t 4], none⟩, ⟨some 37, .callF F.slide_first_int [.c (.int .i64 0), .t 35, .t 36], none⟩, ⟨some 10, .mov (.t 37), none⟩] [[], [0], [], [1, 2, 0], [3, 1, 2, 0], [], [4, 5, 1, 3, 2, 0], [6, 0, 1, 2, 3, 4, 5]] (some [4, 10])) (.seq (.draw [⟨some 38, .load1 (.t 4), none⟩, ⟨some 39, .mov (.t 10), none⟩, ⟨some 40, .callF F.slide_speedOf [.t 39], none⟩, ⟨none, .store (.t 4) 1 (.t 38), none⟩, ⟨some 5, .mov (.t 40), none⟩, ⟨some 6, .mov (.c (.int .i64 0)), none⟩] [[], [], [1], [0, 2, 1], [2, 3, 0, 1], [4, 0, 1, 2, 3]] (some [4, 5, 6])) (.ret))))))))
theorem ok_slide_Names : FnOK Try.prog F.slide_Names ac_slide_Names [.cell1 4, .t 5, .t 6] 2 := ⟨Try.f42, Try.func42, by kernel_rfl, by kernel_rfl, by kernel_rfl, by kernel_rfl⟩
/- kreisel/slide.Safe -/
def ac_slide_Safe : AC := .seq (.ops [⟨some 2, .box (.t 0), none⟩, ⟨some 3, .box (.t 1), none⟩, ⟨some 4, .mov (.c (.int .u8 0)), none⟩, ⟨some 5, .mov (.c (.int .i64 0)), none⟩] (some [2, 3])) (.seq (.seq (.ops [⟨some 8, .loadN (.t 2) 1, none⟩, ⟨some 9, .loadN (.t 3) 11, none⟩, ⟨some 10, .buildSlice [.int .u8 0, .int .i64 0, .int .i64 0, .int .i64 0, .int .i64 0, .int .i64 0, .int .i64 0, .int .i64 0, .int .i64 0, .int .i64 0, .int .i64 0] [(0, 11, .t 9)] 1 11, none⟩, ⟨some 11, .callF F.slide_checkAll [.t 8, .t 10], none⟩, ⟨some 6, .mov (.t 11), none⟩] (some [2, 3, 6])) (.seq (.ops [⟨some 12, .mov (.t 6), none⟩, ⟨some 13, .bin .neq (.t 12) (.c (.int .i64 0)), none⟩] (some [2, 3, 6, 13])) (.cond (.t 13) (.seq (.ops [⟨some 14, .mov (.t 6), none⟩, ⟨some 4, .mov (.c (.int .u8 0)), none⟩, ⟨some 5, .mov (.t 14), none⟩] (some [4, 5])) (.ret)) (.skip)))) (.seq (.ops [⟨some 15, .loadN (.t 3) 11, none⟩, ⟨some 16, .fieldAddr (.t 2) 0, none⟩, ⟨some 17, .load1 (.t 16), none⟩, ⟨some 18, .build [.int .u8 0, .int .i64 0, .int .i64 0, .int .i64 0, .int .i64 0, .int .i64 0, .int .i64 0, .int .i64 0, .int .i64 0, .int .i64 0, .int .i64 0, .nilslice] [(0, 11, .t 15), (11, 1, .t 17)], none⟩, ⟨some 7, .alloc [.int .u8 0, .int .i64 0, .int .i64 0, .int .i64 0, .int .i64 0, .int .i64 0, .int .i64 0, .int .i64 0, .int .i64 0, .int .i64 0, .int .i64 0, .nilslice], none⟩, ⟨none, .store (.t 7) 12 (.t 18), none⟩] (some [7])) (.seq (.block 0 (.seq (.ops [⟨some 20, .loadN (.t 7) 12, none⟩, ⟨some 21, .callF F.slide_slider_safe [.t 20], none⟩, ⟨some 19, .mov (.t 21), none⟩] (some [7, 19])) (.cond (.t 19) (.seq (.ops [⟨some 4, .mov (.c (.int .u8 2)), none⟩, ⟨some 5, .mov (.c (.int .i64 0)), none⟩] (some [4, 5])) (.ret)) (.seq (.ops [⟨some 23, .loadN (.t 7) 12, none⟩, ⟨some 24, .callF F.slide_slider_slowest [.t 23], none⟩, ⟨some 25, .callF F.slide_truth_throwing [.t 24], none⟩, ⟨some 26, .len (.t 25), none⟩, ⟨some 27, .bin .gtr (.t 26) (.c (.int .i64 0)), none⟩, ⟨some 22, .mov (.t 27), none⟩] (some [22])) (.cond (.t 22) (.seq (.ops [⟨some 4, .mov (.c (.int .u8 0)), none⟩, ⟨some 5, .mov (.c (.int .i64 0)), none⟩] (some [4, 5])) (.ret)) (.skip)))))) (.seq (.ops [⟨some 4, .mov (.c (.int .u8 1)), none⟩, ⟨some 5, .mov (.c (.int .i64 0)), none⟩] (some [4, 5])) (.ret)))))
theorem ok_slide_Safe : FnOK Try.prog F.slide_Safe ac_slide_Safe [.t 4, .t 5] 2 := ⟨Try.f43, Try.func43, by kernel_rfl, by kernel_rfl, by kernel_rfl, by kernel_rfl⟩
/- kreisel/slide.Shut -/
def ac_slide_Shut : AC := .seq (.ops [⟨some 2, .box (.t 0), none⟩, ⟨some 4, .mov (.c (.nilslice)), none⟩, ⟨some 5, .mov (.c (.int .i64 0)), none⟩] (some [1, 2])) (.seq (.seq (.ops [⟨some 10, .loadN (.t 2) 1, none⟩, ⟨some 11, .mov (.t 1), none⟩, ⟨some 12, .callF F.slide_checkAll [.t 10, .t 11], none⟩, ⟨some 6, .mov (.t 12), none⟩] (some [1, 2, 6])) (.seq (.ops [⟨some 13, .mov (.t 6), none⟩, ⟨some 14, .bin .neq (.t 13) (.c (.int .i64 0)), none⟩] (some [1, 2, 6, 14])) (.cond (.t 14) (.seq (.ops [⟨some 15, .mov (.t 6), none⟩, ⟨some 4, .mov (.c (.nilslice)), none⟩, ⟨some 5, .mov (.t 15), none⟩] (some [4, 5])) (.ret)) (.skip)))) (.seq (.ops [⟨some 7, .mov (.c (.nilslice)), none⟩] (some [1, 2, 7])) (.seq (.seq (.ops [⟨some 16, .mov (.t 1), none⟩, ⟨some 17, .len (.t 16), none⟩, ⟨some 18, .mov (.c (.int .i64 0)), none⟩] (some [2, 7, 16, 17, 18])) (.block 0 (.loop (.seq (.ops [⟨some 19, .bin .lss (.t 18) (.t 17), none⟩] (some [2, 7, 16, 17, 18, 19])) (.seq (.cond (.t 19) (.skip) (.exit 0)) (.seq (.block 1 (.seq (.ops [⟨some 20, .mov (.t 18), none⟩, ⟨some 21, .idxSl (.t 16) (.t 18) 11, none⟩, ⟨some 22, .loadN (.t 21) 11, none⟩, ⟨some 9, .alloc [.int .u8 0, .int .i64 0, .int .i64 0, .int .i64 0, .int .i64 0, .int .i64 0, .int .i64 0, .int .i64 0, .int .i64 0, .int .i64 0, .int .i64 0], none⟩, ⟨some 8, .mov (.t 20), none⟩, ⟨none, .store (.t 9) 11 (.t 22), none⟩] (some [2, 7, 8, 9, 16, 17, 18])) (.seq (.ops [⟨some 23, .loadN (.t 9) 11, none⟩, ⟨some 24, .fieldAddr (.t 2) 0, none⟩, ⟨some 25, .load1 (.t 24), none⟩, ⟨some 26, .build [.int .u8 0, .int .i64 0, .int .i64 0, .int .i64 0, .int .i64 0, .int .i64 0, .int .i64 0, .int .i64 0, .int .i64 0, .int .i64 0, .int .i64 0, .nilslice] [(0, 11, .t 23), (11, 1, .t 25)], none⟩, ⟨some 27, .callF F.slide_slider_safe [.t 26], none⟩, ⟨some 28, .not (.t 27), none⟩] (some [2, 7, 8, 16, 17, 18, 28])) (.cond (.t 28) (.ops [⟨some 29, .mov (.t 7), none⟩, ⟨some 30, .mov (.t 8), none⟩, ⟨some 31, .buildSlice [.int .i64 0] [(0, 1, .t 30)] 1 1, none⟩, ⟨some 32, .append (.t 29) (.t 31) 1 8, none⟩, ⟨some 7, .mov (.t 32), none⟩] (some [2, 7, 16, 17, 18])) (.skip))))) (.ops [⟨some 33, .bin .add (.t 18) (.c (.int .i64 1)), none⟩, ⟨some 18, .mov (.t 33), none⟩] (some [2, 7, 16, 17, 18])))))))) (.seq (.ops [⟨some 34, .mov (.t 7), none⟩, ⟨some 4, .mov (.t 34), none⟩, ⟨some 5, .mov (.c (.int .i64 0)), none⟩] (some [4, 5])) (.ret)))))
theorem ok_slide_Shut : FnOK Try.prog F.slide_Shut ac_slide_Shut [.t 4, .t 5] 2 := ⟨Try.f44, Try.func44, by kernel_rfl, by kernel_rfl, by kernel_rfl, by kernel_rfl⟩
end Go.Proofs
