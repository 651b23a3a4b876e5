/- The code of functions of the program, as abstract code. -/
import Derived.Test.YtfghjepmofkdaaaAc0
import Derived.Test.YtfghjepmofkdaaaProg
import Derived.KernelRfl
set_option linter.unusedSimpArgs false
set_option linter.unusedVariables false
set_option maxRecDepth 100000
set_option maxHeartbeats 4000000
namespace Go.Proofs
open Go.Abs
abbrev F.law03_SlideWithin : FuncId := 6
abbrev F.law03_SlideEnds : FuncId := 7
abbrev F.law03_SlideThrown : FuncId := 8
abbrev F.law03_SlideMore : FuncId := 9
abbrev F.law03_SlideStart : FuncId := 10
abbrev F.law03_SlideWalls : FuncId := 11
abbrev F.law03_SlideShut : FuncId := 12
abbrev F.law03_SlideLeast : FuncId := 13
abbrev F.law03_alive : FuncId := 31
abbrev F.slide_Walls : FuncId := 33
abbrev F.slide_Least : FuncId := 36
abbrev F.law03_span : FuncId := 38
abbrev F.slide_Heads : FuncId := 39
abbrev F.slide_Speed : FuncId := 40
abbrev F.slide_Height : FuncId := 41
abbrev F.slide_Names : FuncId := 42
abbrev F.slide_Safe : FuncId := 43
abbrev F.slide_Shut : FuncId := 44
abbrev F.slide_Start : FuncId := 45
abbrev F.law03_ready : FuncId := 47
abbrev F.law03_truth : FuncId := 48
abbrev F.law03_inside : FuncId := 49
abbrev F.law03_ends : FuncId := 50
abbrev F.law03_wider : FuncId := 51
abbrev F.ref03_Sled : FuncId := 52
abbrev F.law03_SlideStart_1 : FuncId := 54
abbrev F.law03_some : FuncId := 58
abbrev F.law03_choose : FuncId := 59
abbrev F.slide_checkAll : FuncId := 101
abbrev F.slide_slider_fastest : FuncId := 102
abbrev F.slide_truth_within : FuncId := 103
abbrev F.slide_straight : FuncId := 104
abbrev F.slide_truth_height : FuncId := 105
abbrev F.slide_speedUp : FuncId := 106
abbrev F.slide_truth_long : FuncId := 107
abbrev F.slide_slider_slowest : FuncId := 108
abbrev F.slide_truth_heads : FuncId := 109
abbrev F.slide_speedOf : FuncId := 110
abbrev F.slide_truth_throwing : FuncId := 111
abbrev F.slide_first_int : FuncId := 112
abbrev F.slide_Names_1 : FuncId := 113
abbrev F.slide_truth_throws : FuncId := 114
abbrev F.slide_slider_safe : FuncId := 115
abbrev F.slide_Start_1 : FuncId := 116
abbrev F.slide_right : FuncId := 117
abbrev F.ref03_Next : FuncId := 118
abbrev F.ref03_within : FuncId := 119
abbrev F.ref03_span : FuncId := 120
abbrev F.span_High : FuncId := 137
abbrev F.span_Low : FuncId := 138
abbrev F.slide_speedUp_1 : FuncId := 153
abbrev F.slide_truth_heads_1 : FuncId := 154
abbrev F.slide_truth_next : FuncId := 155
abbrev F.slide_speedOf_1 : FuncId := 156
abbrev F.slices_Sorted_int : FuncId := 157
abbrev F.maps_Keys_map_int_int_int_int : FuncId := 158
abbrev F.span_Valid : FuncId := 159
abbrev F.slide_limits : FuncId := 160
abbrev F.slide_forces : FuncId := 175
abbrev F.slices_Collect_int : FuncId := 176
abbrev F.slices_Sort_int_int : FuncId := 177
abbrev F.maps_Keys_map_int_int_int_int_1 : FuncId := 178
abbrev F.cmp_isNaN_int : FuncId := 189
abbrev F.slide_forces_1 : FuncId := 190
abbrev F.slide_truth_air : FuncId := 191
abbrev F.slide_truth_fall : FuncId := 192
abbrev F.slide_truth_ice : FuncId := 193
abbrev F.slices_AppendSeq_int_int : FuncId := 194
abbrev F.slices_pdqsortOrdered_int : FuncId := 195
abbrev F.math_bits_Len : FuncId := 196
abbrev F.slices_insertionSortOrdered_int : FuncId := 197
abbrev F.slices_heapSortOrdered_int : FuncId := 198
abbrev F.slices_breakPatternsOrdered_int : FuncId := 199
abbrev F.slices_choosePivotOrdered_int : FuncId := 200
abbrev F.slices_reverseRangeOrdered_int : FuncId := 201
abbrev F.slices_partialInsertionSortOrdered_int : FuncId := 202
abbrev F.cmp_Less_int : FuncId := 203
abbrev F.slices_partitionEqualOrdered_int : FuncId := 204
abbrev F.slices_partitionOrdered_int : FuncId := 205
abbrev F.math_bits_Len32 : FuncId := 206
abbrev F.math_bits_Len64 : FuncId := 207
abbrev F.slices_siftDownOrdered_int : FuncId := 208
abbrev F.slices_nextPowerOfTwo : FuncId := 209
abbrev F.slices_xorshift_Next : FuncId := 210
abbrev F.slices_medianAdjacentOrdered_int : FuncId := 211
abbrev F.slices_medianOrdered_int : FuncId := 212
abbrev F.slices_order2Ordered_int : FuncId := 213
/- kreisel/kreisellaw03.SlideStart -/
def ac_law03_SlideStart : AC := .seq (.ops [⟨some 3, .box (.t 0), none⟩, ⟨some 4, .box (.t 1), none⟩, ⟨some 6, .mov (.c (.bool false)), none⟩] (some [2, 3, 4])) (.seq (.ops [⟨some 13, .callF F.law03_alive [], none⟩, ⟨some 7, .mov (.t 13), none⟩] (some [2, 3, 4, 7])) (.seq (.seq (.ops [⟨some 14, .loadN (.t 3) 1, none⟩, ⟨some 15, .loadN (.t 4) 11, none⟩, ⟨some 16, .callF F.law03_ready [.t 14, .t 15], none⟩, ⟨some 17, .not (.t 16), none⟩, ⟨some 18, .mov (.t 17), none⟩, ⟨some 19, .mov (.t 7), some (18, false)⟩, ⟨some 20, .not (.t 19), some (18, false)⟩, ⟨some 21, .pick (.t 18) (.c (.bool true)) (.t 20), none⟩] (some [2, 3, 4, 7, 21])) (.cond (.t 21) (.seq (.ops [⟨some 22, .mov (.t 7), none⟩, ⟨some 6, .mov (.t 22), none⟩] (some [6])) (.ret)) (.skip))) (.seq (.ops [⟨some 24, .loadN (.t 3) 1, none⟩, ⟨some 25, .loadN (.t 4) 11, none⟩, ⟨some 26, .callF F.slide_Start [.t 24, .t 25], none⟩, ⟨some 23, .mov (.t 26), none⟩, ⟨some 27, .extract (.t 23) 0, none⟩, ⟨some 28, .extract (.t 23) 1, none⟩, ⟨some 8, .mov (.t 27), none⟩, ⟨some 9, .mov (.t 28), none⟩] (some [2, 3, 4, 7, 8, 9])) (.seq (.ops [⟨some 29, .mkfn (.func F.law03_SlideStart_1) [] [.t 4, .t 3], none⟩, ⟨some 10, .mov (.t 29), none⟩] (some [2, 3, 4, 7, 8, 9, 10])) (.seq (.seq (.ops [⟨some 30, .mov (.t 9), none⟩, ⟨some 31, .bin .neq (.t 30) (.c (.int .i64 0)), none⟩] (some [2, 3, 4, 7, 8, 9, 10, 31])) (.cond (.t 31) (.seq (.ops [⟨some 32, .mov (.t 7), none⟩, ⟨some 33, .mov (.t 32), none⟩, ⟨some 34, .mov (.t 9), some (33, true)⟩, ⟨some 35, .bin .eql (.t 34) (.c (.int .i64 6)), some (33, true)⟩, ⟨some 36, .pick (.t 33) (.t 35) (.c (.bool false)), none⟩, ⟨some 37, .mov (.t 36), none⟩, ⟨some 38, .mov (.t 10), some (37, true)⟩, ⟨some 39, .callV (.t 38) [.c (.int .i64 0)], some (37, true)⟩, ⟨some 40, .not (.t 39), some (37, true)⟩, ⟨some 41, .pick (.t 37) (.t 40) (.c (.bool false)), none⟩, ⟨some 6, .mov (.t 41), none⟩] (some [6])) (.ret)) (.skip))) (.seq (.seq (.ops [⟨some 42, .mov (.t 8), none⟩, ⟨some 43, .bin .lss (.t 42) (.c (.int .i64 0)), none⟩, ⟨some 44, .mov (.t 43), none⟩, ⟨some 45, .mov (.t 8), some (44, false)⟩, ⟨some 46, .bin .gtr (.t 45) (.c (.int .i64 200000)), some (44, false)⟩, ⟨some 47, .pick (.t 44) (.c (.bool true)) (.t 46), none⟩, ⟨some 48, .mov (.t 47), none⟩, ⟨some 49, .mov (.t 10), some (48, false)⟩, ⟨some 50, .mov (.t 8), some (48, false)⟩, ⟨some 51, .callV (.t 49) [.t 50], some (48, false)⟩, ⟨some 52, .not (.t 51), some (48, false)⟩, ⟨some 53, .pick (.t 48) (.c (.bool true)) (.t 52), none⟩, ⟨some 54, .mov (.t 53), none⟩, ⟨some 55, .mov (.t 10), some (54, false)⟩, ⟨some 56, .mov (.t 2), some (54, false)⟩, ⟨some 57, .conv .i64 (.t 56), some (54, false)⟩, ⟨some 58, .mov (.t 8), some (54, false)⟩, ⟨some 59, .bin .add (.t 58) (.c (.int .i64 1)), some (54, false)⟩, ⟨some 60, .bin .rem (.t 57) (.t 59), some (54, false)⟩, ⟨some 61, .callV (.t 55) [.t 60], some (54, false)⟩, ⟨some 62, .not (.t 61), some (54, false)⟩, ⟨some 63, .pick (.t 54) (.c (.bool true)) (.t 62), none⟩, ⟨some 64, .mov (.t 63), none⟩, ⟨some 65, .mov (.t 8), some (64, false)⟩, ⟨some 66, .bin .lss (.t 65) (.c (.int .i64 200000)), some (64, false)⟩, ⟨some 67, .mov (.t 66), some (64, false)⟩, ⟨some 68, .mov (.t 10), some (67, true)⟩, ⟨some 69, .mov (.t 8), some (67, true)⟩, ⟨some 70, .bin .add (.t 69) (.c (.int .i64 1)), some (67, true)⟩, ⟨some 71, .callV (.t 68) [.t 70], some (67, true)⟩, ⟨some 72, .pick (.t 67) (.t 71) (.c (.bool false)), some (64, false)⟩, ⟨some 73, .pick (.t 64) (.c (.bool true)) (.t 72), none⟩] (some [3, 4, 7, 8, 73])) (.cond (.t 73) (.seq (.ops [⟨some 6, .mov (.c (.bool false)), none⟩] (some [6])) (.ret)) (.skip))) (.seq (.ops [⟨some 75, .loadN (.t 3) 1, none⟩, ⟨some 76, .loadN (.t 4) 11, none⟩, ⟨some 77, .callF F.slide_Safe [.t 75, .t 76], none⟩, ⟨some 74, .mov (.t 77), none⟩, ⟨some 78, .extract (.t 74) 0, none⟩, ⟨some 79, .extract (.t 74) 1, none⟩, ⟨some 11, .mov (.t 78), none⟩, ⟨some 12, .mov (.t 79), none⟩] (some [4, 7, 8, 11, 12])) (.seq (.ops [⟨some 80, .mov (.t 7), none⟩, ⟨some 81, .mov (.t 80), none⟩, ⟨some 82, .mov (.t 12), some (81, true)⟩, ⟨some 83, .bin .eql (.t 82) (.c (.int .i64 0)), some (81, true)⟩, ⟨some 84, .pick (.t 81) (.t 83) (.c (.bool false)), none⟩, ⟨some 85, .mov (.t 84), none⟩, ⟨some 86, .fieldAddr (.t 4) 1, some (85, true)⟩, ⟨some 87, .fieldAddr (.t 86) 1, some (85, true)⟩, ⟨some 88, .load1 (.t 87), some (85, true)⟩, ⟨some 89, .mov (.t 8), some (85, true)⟩, ⟨some 90, .bin .gtr (.t 88) (.t 89), some (85, true)⟩, ⟨some 91, .mov (.t 90), some (85, true)⟩, ⟨some 92, .mov (.t 11), some (91, false)⟩, ⟨some 93, .bin .eql (.t 92) (.c (.int .u8 2)), some (91, false)⟩, ⟨some 94, .pick (.t 91) (.c (.bool true)) (.t 93), some (85, true)⟩, ⟨some 95, .pick (.t 85) (.t 94) (.c (.bool false)), none⟩, ⟨some 96, .mov (.t 95), none⟩, ⟨some 97, .fieldAddr (.t 4) 1, some (96, true)⟩, ⟨some 98, .fieldAddr (.t 97) 1, some (96, true)⟩, ⟨some 99, .load1 (.t 98), some (96, true)⟩, ⟨some 100, .mov (.t 8), some (96, true)⟩, ⟨some 101, .bin .leq (.t 99) (.t 100), some (96, true)⟩, ⟨some 102, .mov (.t 101), some (96, true)⟩, ⟨some 103, .mov (.t 11), some (102, false)⟩, ⟨some 104, .bin .neq (.t 103) (.c (.int .u8 2)), some (102, false)⟩, ⟨some 105, .pick (.t 102) (.c (.bool true)) (.t 104), some (96, true)⟩, ⟨some 106, .pick (.t 96) (.t 105) (.c (.bool false)), none⟩, ⟨some 6, .mov (.t 106), none⟩] (some [6])) (.ret)))))))))
theorem ok_law03_SlideStart : FnOK Try.prog F.law03_SlideStart ac_law03_SlideStart [.t 6] 3 := ⟨Try.f10, Try.func10, by kernel_rfl, by kernel_rfl, by kernel_rfl, by kernel_rfl⟩
/- kreisel/kreisellaw03.span -/
def ac_law03_span : AC := .seq (.ops [⟨some 4, .alloc [.int .i64 0, .int .i64 0], none⟩] (some [0, 1, 4])) (.seq (.ops [⟨some 5, .mov (.t 0), none⟩, ⟨some 6, .mov (.t 1), none⟩, ⟨some 7, .build [.int .i64 0, .int .i64 0] [(0, 1, .t 5), (1, 1, .t 6)], none⟩, ⟨none, .store (.t 4) 2 (.t 7), none⟩] (some [4])) (.ret))
theorem ok_law03_span : FnOK Try.prog F.law03_span ac_law03_span [.cellN 4 2] 2 := ⟨Try.f38, Try.func38, by kernel_rfl, by kernel_rfl, by kernel_rfl, by kernel_rfl⟩
/- kreisel/slide.Safe -/
def ac_slide_Safe : AC := .seq (.ops [⟨some 2, .box (.t 0), none⟩, ⟨some 3, .box (.t 1), none⟩, ⟨some 4, .mov (.c (.int .u8 0)), none⟩, ⟨some 5, .mov (.c (.int .i64 0)), none⟩] (some [2, 3])) (.seq (.seq (.ops [⟨some 8, .loadN (.t 2) 1, none⟩, ⟨some 9, .loadN (.t 3) 11, none⟩, ⟨some 10, .buildSlice [.int .u8 0, .int .i64 0, .int .i64 0, .int .i64 0, .int .i64 0, .int .i64 0, .int .i64 0, .int .i64 0, .int .i64 0, .int .i64 0, .int .i64 0] [(0, 11, .t 9)] 1 11, none⟩, ⟨some 11, .callF F.slide_checkAll [.t 8, .t 10], none⟩, ⟨some 6, .mov (.t 11), none⟩] (some [2, 3, 6])) (.seq (.ops [⟨some 12, .mov (.t 6), none⟩, ⟨some 13, .bin .neq (.t 12) (.c (.int .i64 0)), none⟩] (some [2, 3, 6, 13])) (.cond (.t 13) (.seq (.ops [⟨some 14, .mov (.t 6), none⟩, ⟨some 4, .mov (.c (.int .u8 0)), none⟩, ⟨some 5, .mov (.t 14), none⟩] (some [4, 5])) (.ret)) (.skip)))) (.seq (.ops [⟨some 15, .loadN (.t 3) 11, none⟩, ⟨some 16, .fieldAddr (.t 2) 0, none⟩, ⟨some 17, .load1 (.t 16), none⟩, ⟨some 18, .build [.int .u8 0, .int .i64 0, .int .i64 0, .int .i64 0, .int .i64 0, .int .i64 0, .int .i64 0, .int .i64 0, .int .i64 0, .int .i64 0, .int .i64 0, .nilslice] [(0, 11, .t 15), (11, 1, .t 17)], none⟩, ⟨some 7, .alloc [.int .u8 0, .int .i64 0, .int .i64 0, .int .i64 0, .int .i64 0, .int .i64 0, .int .i64 0, .int .i64 0, .int .i64 0, .int .i64 0, .int .i64 0, .nilslice], none⟩, ⟨none, .store (.t 7) 12 (.t 18), none⟩] (some [7])) (.seq (.block 0 (.seq (.ops [⟨some 20, .loadN (.t 7) 12, none⟩, ⟨some 21, .callF F.slide_slider_safe [.t 20], none⟩, ⟨some 19, .mov (.t 21), none⟩] (some [7, 19])) (.cond (.t 19) (.seq (.ops [⟨some 4, .mov (.c (.int .u8 2)), none⟩, ⟨some 5, .mov (.c (.int .i64 0)), none⟩] (some [4, 5])) (.ret)) (.seq (.ops [⟨some 23, .loadN (.t 7) 12, none⟩, ⟨some 24, .callF F.slide_slider_slowest [.t 23], none⟩, ⟨some 25, .callF F.slide_truth_throwing [.t 24], none⟩, ⟨some 26, .len (.t 25), none⟩, ⟨some 27, .bin .gtr (.t 26) (.c (.int .i64 0)), none⟩, ⟨some 22, .mov (.t 27), none⟩] (some [22])) (.cond (.t 22) (.seq (.ops [⟨some 4, .mov (.c (.int .u8 0)), none⟩, ⟨some 5, .mov (.c (.int .i64 0)), none⟩] (some [4, 5])) (.ret)) (.skip)))))) (.seq (.ops [⟨some 4, .mov (.c (.int .u8 1)), none⟩, ⟨some 5, .mov (.c (.int .i64 0)), none⟩] (some [4, 5])) (.ret)))))
theorem ok_slide_Safe : FnOK Try.prog F.slide_Safe ac_slide_Safe [.t 4, .t 5] 2 := ⟨Try.f43, Try.func43, by kernel_rfl, by kernel_rfl, by kernel_rfl, by kernel_rfl⟩
/- kreisel/slide.Start -/
def ac_slide_Start : AC := .seq (.ops [⟨some 2, .box (.t 0), none⟩, ⟨some 3, .box (.t 1), none⟩, ⟨some 4, .mov (.c (.int .i64 0)), none⟩, ⟨some 5, .mov (.c (.int .i64 0)), none⟩] (some [2, 3])) (.seq (.seq (.ops [⟨some 9, .loadN (.t 2) 1, none⟩, ⟨some 10, .loadN (.t 3) 11, none⟩, ⟨some 11, .buildSlice [.int .u8 0, .int .i64 0, .int .i64 0, .int .i64 0, .int .i64 0, .int .i64 0, .int .i64 0, .int .i64 0, .int .i64 0, .int .i64 0, .int .i64 0] [(0, 11, .t 10)] 1 11, none⟩, ⟨some 12, .callF F.slide_checkAll [.t 9, .t 11], none⟩, ⟨some 6, .mov (.t 12), none⟩] (some [2, 3, 6])) (.seq (.ops [⟨some 13, .mov (.t 6), none⟩, ⟨some 14, .bin .neq (.t 13) (.c (.int .i64 0)), none⟩] (some [2, 3, 6, 14])) (.cond (.t 14) (.seq (.ops [⟨some 15, .mov (.t 6), none⟩, ⟨some 4, .mov (.c (.int .i64 0)), none⟩, ⟨some 5, .mov (.t 15), none⟩] (some [4, 5])) (.ret)) (.skip)))) (.seq (.ops [⟨some 16, .loadN (.t 3) 11, none⟩, ⟨some 17, .fieldAddr (.t 2) 0, none⟩, ⟨some 18, .load1 (.t 17), none⟩, ⟨some 19, .build [.int .u8 0, .int .i64 0, .int .i64 0, .int .i64 0, .int .i64 0, .int .i64 0, .int .i64 0, .int .i64 0, .int .i64 0, .int .i64 0, .int .i64 0, .nilslice] [(0, 11, .t 16), (11, 1, .t 18)], none⟩, ⟨some 7, .alloc [.int .u8 0, .int .i64 0, .int .i64 0, .int .i64 0, .int .i64 0, .int .i64 0, .int .i64 0, .int .i64 0, .int .i64 0, .int .i64 0, .int .i64 0, .nilslice], none⟩, ⟨none, .store (.t 7) 12 (.t 19), none⟩] (some [7])) (.seq (.ops [⟨some 20, .mkfn (.func F.slide_Start_1) [] [.t 7], none⟩, ⟨some 21, .callF F.slide_first_int [.c (.int .i64 0), .c (.int .i64 200001), .t 20], none⟩, ⟨some 8, .mov (.t 21), none⟩] (some [8])) (.seq (.seq (.ops [⟨some 22, .mov (.t 8), none⟩, ⟨some 23, .bin .eql (.t 22) (.c (.int .i64 0)), none⟩] (some [8, 23])) (.cond (.t 23) (.seq (.ops [⟨some 4, .mov (.c (.int .i64 0)), none⟩, ⟨some 5, .mov (.c (.int .i64 6)), none⟩] (some [4, 5])) (.ret)) (.skip))) (.seq (.ops [⟨some 24, .mov (.t 8), none⟩, ⟨some 25, .bin .sub (.t 24) (.c (.int .i64 1)), none⟩, ⟨some 4, .mov (.t 25), none⟩, ⟨some 5, .mov (.c (.int .i64 0)), none⟩] (some [4, 5])) (.ret))))))
theorem ok_slide_Start : FnOK Try.prog F.slide_Start ac_slide_Start [.t 4, .t 5] 2 := ⟨Try.f45, Try.func45, by kernel_rfl, by kernel_rfl, by kernel_rfl, by kernel_rfl⟩
/- kreisel/kreisellaw03.ready -/
def ac_law03_ready : AC := .seq (.ops [⟨some 2, .box (.t 0), none⟩, ⟨some 3, .box (.t 1), none⟩, ⟨some 4, .mov (.c (.bool false)), none⟩] (some [2, 3])) (.seq (.ops [⟨some 5, .loadN (.t 2) 1, none⟩, ⟨some 6, .callF F.ref01_Great [.t 5], none⟩, ⟨some 7, .not (.t 6), none⟩, ⟨some 8, .mov (.t 7), none⟩, ⟨some 9, .loadN (.t 2) 1, some (8, true)⟩, ⟨some 10, .callF F.ref01_Track [.t 9], some (8, true)⟩, ⟨some 11, .pick (.t 8) (.t 10) (.c (.bool false)), none⟩, ⟨some 12, .mov (.t 11), none⟩, ⟨some 13, .loadN (.t 3) 11, some (12, true)⟩, ⟨some 14, .callF F.ref03_Sled [.t 13], some (12, true)⟩, ⟨some 15, .pick (.t 12) (.t 14) (.c (.bool false)), none⟩, ⟨some 4, .mov (.t 15), none⟩] (some [4])) (.ret))
theorem ok_law03_ready : FnOK Try.prog F.law03_ready ac_law03_ready [.t 4] 2 := ⟨Try.f47, Try.func47, by kernel_rfl, by kernel_rfl, by kernel_rfl, by kernel_rfl⟩
end Go.Proofs
