/- The code of functions of the program, as abstract code. -/
import Derived.Test.YtfghjepmofkdaaaAc0
import Derived.Test.YtfghjepmofkdaaaProg
import Derived.KernelRfl
set_option linter.unusedSimpArgs false
set_option linter.unusedVariables false
set_option maxRecDepth 100000
set_option maxHeartbeats 4000000
namespace Go.Proofs
open Go.Abs
abbrev F.law03_SlideWithin : FuncId := 6
abbrev F.law03_SlideEnds : FuncId := 7
abbrev F.law03_SlideThrown : FuncId := 8
abbrev F.law03_SlideMore : FuncId := 9
abbrev F.law03_SlideStart : FuncId := 10
abbrev F.law03_SlideWalls : FuncId := 11
abbrev F.law03_SlideShut : FuncId := 12
abbrev F.law03_SlideLeast : FuncId := 13
abbrev F.law03_alive : FuncId := 31
abbrev F.slide_Walls : FuncId := 33
abbrev F.slide_Least : FuncId := 36
abbrev F.law03_span : FuncId := 38
abbrev F.slide_Heads : FuncId := 39
abbrev F.slide_Speed : FuncId := 40
abbrev F.slide_Height : FuncId := 41
abbrev F.slide_Names : FuncId := 42
abbrev F.slide_Safe : FuncId := 43
abbrev F.slide_Shut : FuncId := 44
abbrev F.slide_Start : FuncId := 45
abbrev F.law03_ready : FuncId := 47
abbrev F.law03_truth : FuncId := 48
abbrev F.law03_inside : FuncId := 49
abbrev F.law03_ends : FuncId := 50
abbrev F.law03_wider : FuncId := 51
abbrev F.ref03_Sled : FuncId := 52
abbrev F.law03_SlideStart_1 : FuncId := 54
abbrev F.law03_some : FuncId := 58
abbrev F.law03_choose : FuncId := 59
abbrev F.slide_checkAll : FuncId := 101
abbrev F.slide_slider_fastest : FuncId := 102
abbrev F.slide_truth_within : FuncId := 103
abbrev F.slide_straight : FuncId := 104
abbrev F.slide_truth_height : FuncId := 105
abbrev F.slide_speedUp : FuncId := 106
abbrev F.slide_truth_long : FuncId := 107
abbrev F.slide_slider_slowest : FuncId := 108
abbrev F.slide_truth_heads : FuncId := 109
abbrev F.slide_speedOf : FuncId := 110
abbrev F.slide_truth_throwing : FuncId := 111
abbrev F.slide_first_int : FuncId := 112
abbrev F.slide_Names_1 : FuncId := 113
abbrev F.slide_truth_throws : FuncId := 114
abbrev F.slide_slider_safe : FuncId := 115
abbrev F.slide_Start_1 : FuncId := 116
abbrev F.slide_right : FuncId := 117
abbrev F.ref03_Next : FuncId := 118
abbrev F.ref03_within : FuncId := 119
abbrev F.ref03_span : FuncId := 120
abbrev F.span_High : FuncId := 137
abbrev F.span_Low : FuncId := 138
abbrev F.slide_speedUp_1 : FuncId := 153
abbrev F.slide_truth_heads_1 : FuncId := 154
abbrev F.slide_truth_next : FuncId := 155
abbrev F.slide_speedOf_1 : FuncId := 156
abbrev F.slices_Sorted_int : FuncId := 157
abbrev F.maps_Keys_map_int_int_int_int : FuncId := 158
abbrev F.span_Valid : FuncId := 159
abbrev F.slide_limits : FuncId := 160
abbrev F.slide_forces : FuncId := 175
abbrev F.slices_Collect_int : FuncId := 176
abbrev F.slices_Sort_int_int : FuncId := 177
abbrev F.maps_Keys_map_int_int_int_int_1 : FuncId := 178
abbrev F.cmp_isNaN_int : FuncId := 189
abbrev F.slide_forces_1 : FuncId := 190
abbrev F.slide_truth_air : FuncId := 191
abbrev F.slide_truth_fall : FuncId := 192
abbrev F.slide_truth_ice : FuncId := 193
abbrev F.slices_AppendSeq_int_int : FuncId := 194
abbrev F.slices_pdqsortOrdered_int : FuncId := 195
abbrev F.math_bits_Len : FuncId := 196
abbrev F.slices_insertionSortOrdered_int : FuncId := 197
abbrev F.slices_heapSortOrdered_int : FuncId := 198
abbrev F.slices_breakPatternsOrdered_int : FuncId := 199
abbrev F.slices_choosePivotOrdered_int : FuncId := 200
abbrev F.slices_reverseRangeOrdered_int : FuncId := 201
abbrev F.slices_partialInsertionSortOrdered_int : FuncId := 202
abbrev F.cmp_Less_int : FuncId := 203
abbrev F.slices_partitionEqualOrdered_int : FuncId := 204
abbrev F.slices_partitionOrdered_int : FuncId := 205
abbrev F.math_bits_Len32 : FuncId := 206
abbrev F.math_bits_Len64 : FuncId := 207
abbrev F.slices_siftDownOrdered_int : FuncId := 208
abbrev F.slices_nextPowerOfTwo : FuncId := 209
abbrev F.slices_xorshift_Next : FuncId := 210
abbrev F.slices_medianAdjacentOrdered_int : FuncId := 211
abbrev F.slices_medianOrdered_int : FuncId := 212
abbrev F.slices_order2Ordered_int : FuncId := 213
/- kreisel/kreisellaw03.SlideWalls -/
def ac_law03_SlideWalls : AC := .seq (.ops [⟨some 2, .box (.t 0), none⟩, ⟨some 3, .box (.t 1), none⟩, ⟨some 4, .mov (.c (.bool false)), none⟩] (some [2, 3])) (.seq (.ops [⟨some 19, .callF F.law03_alive [], none⟩, ⟨some 5, .mov (.t 19), none⟩] (some [2, 3, 5])) (.seq (.seq (.ops [⟨some 20, .loadN (.t 2) 1, none⟩, ⟨some 21, .loadN (.t 3) 11, none⟩, ⟨some 22, .callF F.law03_ready [.t 20, .t 21], none⟩, ⟨some 23, .not (.t 22), none⟩, ⟨some 24, .mov (.t 23), none⟩, ⟨some 25, .mov (.t 5), some (24, false)⟩, ⟨some 26, .not (.t 25), some (24, false)⟩, ⟨some 27, .pick (.t 24) (.c (.bool true)) (.t 26), none⟩] (some [2, 3, 5, 27])) (.cond (.t 27) (.seq (.ops [⟨some 28, .mov (.t 5), none⟩, ⟨some 4, .mov (.t 28), none⟩] (some [4])) (.ret)) (.skip))) (.seq (.ops [⟨some 30, .loadN (.t 2) 1, none⟩, ⟨some 31, .loadN (.t 3) 11, none⟩, ⟨some 32, .callF F.slide_Walls [.t 30, .t 31], none⟩, ⟨some 29, .mov (.t 32), none⟩, ⟨some 33, .extract (.t 29) 0, none⟩, ⟨some 34, .extract (.t 29) 1, none⟩, ⟨some 6, .mov (.t 33), none⟩, ⟨some 7, .mov (.t 34), none⟩] (some [2, 3, 5, 6, 7])) (.seq (.seq (.ops [⟨some 35, .mov (.t 7), none⟩, ⟨some 36, .bin .neq (.t 35) (.c (.int .i64 0)), none⟩, ⟨some 37, .mov (.t 36), none⟩, ⟨some 38, .mov (.t 6), some (37, false)⟩, ⟨some 39, .len (.t 38), some (37, false)⟩, ⟨some 40, .fieldAddr (.t 2) 0, some (37, false)⟩, ⟨some 41, .load1 (.t 40), some (37, false)⟩, ⟨some 42, .len (.t 41), some (37, false)⟩, ⟨some 43, .bin .neq (.t 39) (.t 42), some (37, false)⟩, ⟨some 44, .pick (.t 37) (.c (.bool true)) (.t 43), none⟩] (some [2, 3, 5, 6, 44])) (.cond (.t 44) (.seq (.ops [⟨some 4, .mov (.c (.bool false)), none⟩] (some [4])) (.ret)) (.skip))) (.seq (.ops [⟨some 45, .loadN (.t 2) 1, none⟩, ⟨some 46, .callF F.ref01_Twin [.t 45], none⟩, ⟨some 8, .alloc [.nilslice], none⟩, ⟨none, .store (.t 8) 1 (.t 46), none⟩] (some [2, 3, 5, 6, 8])) (.seq (.seq (.ops [⟨some 47, .mov (.t 6), none⟩, ⟨some 48, .len (.t 47), none⟩, ⟨some 49, .mov (.c (.int .i64 0)), none⟩] (some [2, 3, 5, 6, 8, 47, 48, 49])) (.block 0 (.loop (.seq (.ops [⟨some 50, .bin .lss (.t 49) (.t 48), none⟩] (some [2, 3, 5, 6, 8, 47, 48, 49, 50])) (.seq (.cond (.t 50) (.skip) (.exit 0)) (.seq (.block 1 (.seq (.ops [⟨some 51, .mov (.t 49), none⟩, ⟨some 52, .idxSl (.t 47) (.t 49) 1, none⟩, ⟨some 53, .load1 (.t 52), none⟩, ⟨some 9, .mov (.t 51), none⟩, ⟨some 10, .mov (.t 53), none⟩] (some [2, 3, 5, 6, 8, 9, 10, 47, 48, 49])) (.seq (.seq (.ops [⟨some 54, .mov (.t 10), none⟩, ⟨some 55, .bin .lss (.t 54) (.c (.int .i64 0)), none⟩, ⟨some 56, .mov (.t 55), none⟩, ⟨some 57, .fieldAddr (.t 2) 0, some (56, false)⟩, ⟨some 58, .load1 (.t 57), some (56, false)⟩, ⟨some 59, .mov (.t 9), some (56, false)⟩, ⟨some 60, .idxSl (.t 58) (.t 59) 9, some (56, false)⟩, ⟨some 61, .fieldAddr (.t 60) 7, some (56, false)⟩, ⟨some 62, .load1 (.t 61), some (56, false)⟩, ⟨some 63, .bin .eql (.t 62) (.c (.int .u8 0)), some (56, false)⟩, ⟨some 64, .mov (.t 63), some (56, false)⟩, ⟨some 65, .mov (.t 10), some (64, true)⟩, ⟨some 66, .bin .neq (.t 65) (.c (.int .i64 0)), some (64, true)⟩, ⟨some 67, .pick (.t 64) (.t 66) (.c (.bool false)), some (56, false)⟩, ⟨some 68, .pick (.t 56) (.c (.bool true)) (.t 67), none⟩] (some [2, 3, 5, 6, 8, 9, 10, 47, 48, 49, 68])) (.cond (.t 68) (.seq (.ops [⟨some 4, .mov (.c (.bool false)), none⟩] (some [4])) (.ret)) (.skip))) (.seq (.seq (.ops [⟨some 69, .mov (.t 10), none⟩, ⟨some 70, .bin .gtr (.t 69) (.c (.int .i64 5000)), none⟩] (some [2, 3, 5, 6, 8, 9, 10, 47, 48, 49, 70])) (.cond (.t 70) (.seq (.ops [⟨some 71, .mov (.t 5), none⟩, ⟨some 4, .mov (.t 71), none⟩] (some [4])) (.ret)) (.skip))) (.ops [⟨some 72, .fieldAddr (.t 8) 0, none⟩, ⟨some 73, .load1 (.t 72), none⟩, ⟨some 74, .mov (.t 9), none⟩, ⟨some 75, .mov (.t 10), none⟩, ⟨some 76, .idxSl (.t 73) (.t 74) 9, none⟩, ⟨some 77, .fieldAddr (.t 76) 8, none⟩, ⟨none, .store (.t 77) 1 (.t 75), none⟩] (some [2, 3, 5, 6, 8, 47, 48, 49])))))) (.ops [⟨some 78, .bin .add (.t 49) (.c (.int .i64 1)), none⟩, ⟨some 49, .mov (.t 78), none⟩] (some [2, 3, 5, 6, 8, 47, 48, 49])))))))) (.seq (.ops [⟨some 80, .loadN (.t 8) 1, none⟩, ⟨some 81, .loadN (.t 3) 11, none⟩, ⟨some 82, .callF F.slide_Safe [.t 80, .t 81], none⟩, ⟨some 79, .mov (.t 82), none⟩, ⟨some 83, .extract (.t 79) 0, none⟩, ⟨some 84, .extract (.t 79) 1, none⟩, ⟨some 11, .mov (.t 83), none⟩, ⟨some 12, .mov (.t 84), none⟩] (some [3, 5, 6, 8, 11, 12])) (.seq (.seq (.ops [⟨some 85, .mov (.t 12), none⟩, ⟨some 86, .bin .neq (.t 85) (.c (.int .i64 0)), none⟩, ⟨some 87, .mov (.t 86), none⟩, ⟨some 88, .mov (.t 11), some (87, false)⟩, ⟨some 89, .bin .neq (.t 88) (.c (.int .u8 2)), some (87, false)⟩, ⟨some 90, .pick (.t 87) (.c (.bool true)) (.t 89), none⟩] (some [3, 5, 6, 8, 90])) (.cond (.t 90) (.seq (.ops [⟨some 4, .mov (.c (.bool false)), none⟩] (some [4])) (.ret)) (.skip))) (.seq (.seq (.ops [⟨some 91, .mov (.t 6), none⟩, ⟨some 92, .len (.t 91), none⟩, ⟨some 93, .mov (.c (.int .i64 0)), none⟩] (some [3, 5, 8, 91, 92, 93])) (.block 2 (.loop (.seq (.ops [⟨some 94, .bin .lss (.t 93) (.t 92), none⟩] (some [3, 5, 8, 91, 92, 93, 94])) (.seq (.cond (.t 94) (.skip) (.exit 2)) (.seq (.block 3 (.seq (.ops [⟨some 95, .mov (.t 93), none⟩, ⟨some 96, .idxSl (.t 91) (.t 93) 1, none⟩, ⟨some 97, .load1 (.t 96), none⟩, ⟨some 13, .mov (.t 95), none⟩, ⟨some 14, .mov (.t 97), none⟩] (some [3, 5, 8, 13, 14, 91, 92, 93])) (.seq (.seq (.ops [⟨some 98, .mov (.t 14), none⟩, ⟨some 99, .bin .eql (.t 98) (.c (.int .i64 0)), none⟩] (some [3, 5, 8, 13, 14, 91, 92, 93, 99])) (.cond (.t 99) (.exit 3) (.skip))) (.seq (.ops [⟨some 100, .loadN (.t 8) 1, none⟩, ⟨some 101, .callF F.ref01_Twin [.t 100], none⟩, ⟨some 15, .alloc [.nilslice], none⟩, ⟨none, .store (.t 15) 1 (.t 101), none⟩] (some [3, 5, 8, 13, 14, 15, 91, 92, 93])) (.seq (.ops [⟨some 102, .fieldAddr (.t 15) 0, none⟩, ⟨some 103, .load1 (.t 102), none⟩, ⟨some 104, .mov (.t 13), none⟩, ⟨some 105, .mov (.t 14), none⟩, ⟨some 106, .bin .sub (.t 105) (.c (.int .i64 1)), none⟩, ⟨some 107, .idxSl (.t 103) (.t 104) 9, none⟩, ⟨some 108, .fieldAddr (.t 107) 8, none⟩, ⟨none, .store (.t 108) 1 (.t 106), none⟩] (some [3, 5, 8, 13, 15, 91, 92, 93])) (.seq (.ops [⟨some 110, .loadN (.t 15) 1, none⟩, ⟨some 111, .loadN (.t 3) 11, none⟩, ⟨some 112, .callF F.slide_Names [.t 110, .t 111], none⟩, ⟨some 109, .mov (.t 112), none⟩, ⟨some 113, .extract (.t 109) 0, none⟩, ⟨some 114, .extract (.t 109) 1, none⟩, ⟨some 115, .extract (.t 109) 2, none⟩, ⟨some 16, .mov (.t 113), none⟩, ⟨some 17, .mov (.t 114), none⟩, ⟨some 18, .mov (.t 115), none⟩] (some [3, 5, 8, 13, 16, 18, 91, 92, 93])) (.seq (.ops [⟨some 116, .mov (.t 18), none⟩, ⟨some 117, .bin .neq (.t 116) (.c (.int .i64 0)), none⟩, ⟨some 118, .mov (.t 117), none⟩, ⟨some 119, .mov (.t 16), some (118, false)⟩, ⟨some 120, .mov (.t 13), some (118, false)⟩, ⟨some 121, .bin .neq (.t 119) (.t 120), some (118, false)⟩, ⟨some 122, .pick (.t 118) (.c (.bool true)) (.t 121), none⟩] (some [3, 5, 8, 91, 92, 93, 122])) (.cond (.t 122) (.seq (.ops [⟨some 4, .mov (.c (.bool false)), none⟩] (some [4])) (.ret)) (.skip))))))))) (.ops [⟨some 123, .bin .add (.t 93) (.c (.int .i64 1)), none⟩, ⟨some 93, .mov (.t 123), none⟩] (some [3, 5, 8, 91, 92, 93])))))))) (.seq (.ops [⟨some 124, .mov (.t 5), none⟩, ⟨some 4, .mov (.t 124), none⟩] (some [4])) (.ret)))))))))))
theorem ok_law03_SlideWalls : FnOK Try.prog F.law03_SlideWalls ac_law03_SlideWalls [.t 4] 2 := ⟨Try.f11, Try.func11, by kernel_rfl, by kernel_rfl, by kernel_rfl, by kernel_rfl⟩
/- kreisel/slide.Walls -/
def ac_slide_Walls : AC := .seq (.ops [⟨some 2, .box (.t 0), none⟩, ⟨some 3, .box (.t 1), none⟩, ⟨some 4, .mov (.c (.nilslice)), none⟩, ⟨some 5, .mov (.c (.int .i64 0)), none⟩] (some [2, 3])) (.seq (.seq (.ops [⟨some 11, .loadN (.t 2) 1, none⟩, ⟨some 12, .loadN (.t 3) 11, none⟩, ⟨some 13, .buildSlice [.int .u8 0, .int .i64 0, .int .i64 0, .int .i64 0, .int .i64 0, .int .i64 0, .int .i64 0, .int .i64 0, .int .i64 0, .int .i64 0, .int .i64 0] [(0, 11, .t 12)] 1 11, none⟩, ⟨some 14, .callF F.slide_checkAll [.t 11, .t 13], none⟩, ⟨some 6, .mov (.t 14), none⟩] (some [2, 3, 6])) (.seq (.ops [⟨some 15, .mov (.t 6), none⟩, ⟨some 16, .bin .neq (.t 15) (.c (.int .i64 0)), none⟩] (some [2, 3, 6, 16])) (.cond (.t 16) (.seq (.ops [⟨some 17, .mov (.t 6), none⟩, ⟨some 4, .mov (.c (.nilslice)), none⟩, ⟨some 5, .mov (.t 17), none⟩] (some [4, 5])) (.ret)) (.skip)))) (.seq (.ops [⟨some 18, .loadN (.t 3) 11, none⟩, ⟨some 19, .fieldAddr (.t 2) 0, none⟩, ⟨some 20, .load1 (.t 19), none⟩, ⟨some 21, .build [.int .u8 0, .int .i64 0, .int .i64 0, .int .i64 0, .int .i64 0, .int .i64 0, .int .i64 0, .int .i64 0, .int .i64 0, .int .i64 0, .int .i64 0, .nilslice] [(0, 11, .t 18), (11, 1, .t 20)], none⟩, ⟨some 22, .callF F.slide_slider_fastest [.t 21], none⟩, ⟨some 7, .alloc [.int .u8 0, .int .i64 0, .int .i64 0, .int .i64 0, .int .i64 0, .int .i64 0, .int .i64 0, .int .i64 0, .int .i64 0, .int .i64 0, .int .i64 0, .nilslice, .nilfn, .nilfn], none⟩, ⟨none, .store (.t 7) 14 (.t 22), none⟩] (some [2, 7])) (.seq (.ops [⟨some 23, .fieldAddr (.t 2) 0, none⟩, ⟨some 24, .load1 (.t 23), none⟩, ⟨some 25, .len (.t 24), none⟩, ⟨some 26, .makeSl [.int .i64 0] 1 8 (.t 25) (.t 25), none⟩, ⟨some 8, .mov (.t 26), none⟩] (some [2, 7, 8])) (.seq (.seq (.ops [⟨some 27, .loadN (.t 7) 14, none⟩, ⟨some 28, .callF F.slide_truth_within [.t 27], none⟩, ⟨some 29, .len (.t 28), none⟩, ⟨some 30, .mov (.c (.int .i64 0)), none⟩] (some [2, 7, 8, 28, 29, 30])) (.block 0 (.loop (.seq (.ops [⟨some 31, .bin .lss (.t 30) (.t 29), none⟩] (some [2, 7, 8, 28, 29, 30, 31])) (.seq (.cond (.t 31) (.skip) (.exit 0)) (.seq (.block 1 (.seq (.ops [⟨some 32, .mov (.t 30), none⟩, ⟨some 33, .idxSl (.t 28) (.t 30) 1, none⟩, ⟨some 34, .load1 (.t 33), none⟩, ⟨some 9, .mov (.t 32), none⟩, ⟨some 10, .mov (.t 34), none⟩] (some [2, 7, 8, 9, 10, 28, 29, 30])) (.seq (.ops [⟨some 35, .fieldAddr (.t 2) 0, none⟩, ⟨some 36, .load1 (.t 35), none⟩, ⟨some 37, .mov (.t 9), none⟩, ⟨some 38, .idxSl (.t 36) (.t 37) 9, none⟩, ⟨some 39, .loadN (.t 38) 9, none⟩, ⟨some 40, .callF F.slide_straight [.t 39], none⟩, ⟨some 41, .not (.t 40), none⟩] (some [2, 7, 8, 9, 10, 28, 29, 30, 41])) (.cond (.t 41) (.ops [⟨some 42, .mov (.t 8), none⟩, ⟨some 43, .mov (.t 9), none⟩, ⟨some 44, .loadN (.t 7) 14, none⟩, ⟨some 45, .mov (.t 9), none⟩, ⟨some 46, .mov (.t 10), none⟩, ⟨some 47, .callF F.slide_truth_height [.t 44, .t 45, .t 46], none⟩, ⟨some 48, .max2 (.c (.int .i64 0)) (.t 47), none⟩, ⟨some 49, .idxSl (.t 42) (.t 43) 1, none⟩, ⟨none, .store (.t 49) 1 (.t 48), none⟩] (some [2, 7, 8, 28, 29, 30])) (.skip))))) (.ops [⟨some 50, .bin .add (.t 30) (.c (.int .i64 1)), none⟩, ⟨some 30, .mov (.t 50), none⟩] (some [2, 7, 8, 28, 29, 30])))))))) (.seq (.ops [⟨some 51, .mov (.t 8), none⟩, ⟨some 4, .mov (.t 51), none⟩, ⟨some 5, .mov (.c (.int .i64 0)), none⟩] (some [4, 5])) (.ret))))))
theorem ok_slide_Walls : FnOK Try.prog F.slide_Walls ac_slide_Walls [.t 4, .t 5] 2 := ⟨Try.f33, Try.func33, by kernel_rfl, by kernel_rfl, by kernel_rfl, by kernel_rfl⟩
/- kreisel/slide.Names -/
def ac_slide_Names : AC := .seq (.ops [⟨some 2, .box (.t 0), none⟩, ⟨some 3, .box (.t 1), none⟩, ⟨some 4, .alloc [.int .i64 0], none⟩, ⟨some 5, .mov (.c (.int .i64 0)), none⟩, ⟨some 6, .mov (.c (.int .i64 0)), none⟩] (some [2, 3, 4])) (.seq (.seq (.ops [⟨some 11, .loadN (.t 2) 1, none⟩, ⟨some 12, .loadN (.t 3) 11, none⟩, ⟨some 13, .buildSlice [.int .u8 0, .int .i64 0, .int .i64 0, .int .i64 0, .int .i64 0, .int .i64 0, .int .i64 0, .int .i64 0, .int .i64 0, .int .i64 0, .int .i64 0] [(0, 11, .t 12)] 1 11, none⟩, ⟨some 14, .callF F.slide_checkAll [.t 11, .t 13], none⟩, ⟨some 7, .mov (.t 14), none⟩] (some [2, 3, 4, 7])) (.seq (.ops [⟨some 15, .mov (.t 7), none⟩, ⟨some 16, .bin .neq (.t 15) (.c (.int .i64 0)), none⟩] (some [2, 3, 4, 7, 16])) (.cond (.t 16) (.seq (.ops [⟨some 17, .mov (.t 7), none⟩, ⟨none, .store (.t 4) 1 (.c (.int .i64 0)), none⟩, ⟨some 5, .mov (.c (.int .i64 0)), none⟩, ⟨some 6, .mov (.t 17), none⟩] (some [4, 5, 6])) (.ret)) (.skip)))) (.seq (.ops [⟨some 18, .loadN (.t 3) 11, none⟩, ⟨some 19, .fieldAddr (.t 2) 0, none⟩, ⟨some 20, .load1 (.t 19), none⟩, ⟨some 21, .build [.int .u8 0, .int .i64 0, .int .i64 0, .int .i64 0, .int .i64 0, .int .i64 0, .int .i64 0, .int .i64 0, .int .i64 0, .int .i64 0, .int .i64 0, .nilslice] [(0, 11, .t 18), (11, 1, .t 20)], none⟩, ⟨some 22, .callF F.slide_slider_fastest [.t 21], none⟩, ⟨some 8, .alloc [.int .u8 0, .int .i64 0, .int .i64 0, .int .i64 0, .int .i64 0, .int .i64 0, .int .i64 0, .int .i64 0, .int .i64 0, .int .i64 0, .int .i64 0, .nilslice, .nilfn, .nilfn], none⟩, ⟨none, .store (.t 8) 14 (.t 22), none⟩] (some [4, 8])) (.seq (.ops [⟨some 23, .loadN (.t 8) 14, none⟩, ⟨some 24, .callF F.slide_truth_throwing [.t 23], none⟩, ⟨some 9, .mov (.t 24), none⟩] (some [4, 8, 9])) (.seq (.seq (.ops [⟨some 25, .mov (.t 9), none⟩, ⟨some 26, .len (.t 25), none⟩, ⟨some 27, .bin .eql (.t 26) (.c (.int .i64 0)), none⟩] (some [4, 8, 9, 27])) (.cond (.t 27) (.seq (.ops [⟨none, .store (.t 4) 1 (.c (.int .i64 0)), none⟩, ⟨some 5, .mov (.c (.int .i64 0)), none⟩, ⟨some 6, .mov (.c (.int .i64 6)), none⟩] (some [4, 5, 6])) (.ret)) (.skip))) (.seq (.ops [⟨some 28, .mov (.t 9), none⟩, ⟨some 29, .idxSl (.t 28) (.c (.int .i64 0)) 1, none⟩, ⟨some 30, .load1 (.t 29), none⟩, ⟨none, .store (.t 4) 1 (.t 30), none⟩] (some [4, 8])) (.seq (.draw [⟨some 31, .loadN (.t 8) 14, none⟩, ⟨some 32, .callF F.slide_truth_within [.t 31], none⟩, ⟨some 33, .load1 (.t 4), none⟩, ⟨some 34, .idxSl (.t 32) (.t 33) 1, none⟩, ⟨some 35, .load1 (.t 34), none⟩, ⟨some 36, .mkfn (.func F.slide_Names_1) [] [.t 8, .t 4], none⟩, ⟨some 37, .callF F.slide_first_int [.c (.int .i64 0), .t 35, .t 36], none⟩, ⟨some 10, .mov (.t 37), none⟩] [[], [0], [], [1, 2, 0], [3, 1, 2, 0], [], [4, 5, 1, 3, 2, 0], [6, 0, 1, 2, 3, 4, 5]] (some [4, 10])) (.seq (.draw [⟨some 38, .load1 (.t 4), none⟩, ⟨some 39, .mov (.t 10), none⟩, ⟨some 40, .callF F.slide_speedOf [.t 39], none⟩, ⟨none, .store (.t 4) 1 (.t 38), none⟩, ⟨some 5, .mov (.t 40), none⟩, ⟨some 6, .mov (.c (.int .i64 0)), none⟩] [[], [], [1], [0, 2, 1], [2, 3, 0, 1], [4, 0, 1, 2, 3]] (some [4, 5, 6])) (.ret))))))))
theorem ok_slide_Names : FnOK Try.prog F.slide_Names ac_slide_Names [.cell1 4, .t 5, .t 6] 2 := ⟨Try.f42, Try.func42, by kernel_rfl, by kernel_rfl, by kernel_rfl, by kernel_rfl⟩
/- kreisel/slide.Safe -/
def ac_slide_Safe : AC := .seq (.ops [⟨some 2, .box (.t 0), none⟩, ⟨some 3, .box (.t 1), none⟩, ⟨some 4, .mov (.c (.int .u8 0)), none⟩, ⟨some 5, .mov (.c (.int .i64 0)), none⟩] (some [2, 3])) (.seq (.seq (.ops [⟨some 8, .loadN (.t 2) 1, none⟩, ⟨some 9, .loadN (.t 3) 11, none⟩, ⟨some 10, .buildSlice [.int .u8 0, .int .i64 0, .int .i64 0, .int .i64 0, .int .i64 0, .int .i64 0, .int .i64 0, .int .i64 0, .int .i64 0, .int .i64 0, .int .i64 0] [(0, 11, .t 9)] 1 11, none⟩, ⟨some 11, .callF F.slide_checkAll [.t 8, .t 10], none⟩, ⟨some 6, .mov (.t 11), none⟩] (some [2, 3, 6])) (.seq (.ops [⟨some 12, .mov (.t 6), none⟩, ⟨some 13, .bin .neq (.t 12) (.c (.int .i64 0)), none⟩] (some [2, 3, 6, 13])) (.cond (.t 13) (.seq (.ops [⟨some 14, .mov (.t 6), none⟩, ⟨some 4, .mov (.c (.int .u8 0)), none⟩, ⟨some 5, .mov (.t 14), none⟩] (some [4, 5])) (.ret)) (.skip)))) (.seq (.ops [⟨some 15, .loadN (.t 3) 11, none⟩, ⟨some 16, .fieldAddr (.t 2) 0, none⟩, ⟨some 17, .load1 (.t 16), none⟩, ⟨some 18, .build [.int .u8 0, .int .i64 0, .int .i64 0, .int .i64 0, .int .i64 0, .int .i64 0, .int .i64 0, .int .i64 0, .int .i64 0, .int .i64 0, .int .i64 0, .nilslice] [(0, 11, .t 15), (11, 1, .t 17)], none⟩, ⟨some 7, .alloc [.int .u8 0, .int .i64 0, .int .i64 0, .int .i64 0, .int .i64 0, .int .i64 0, .int .i64 0, .int .i64 0, .int .i64 0, .int .i64 0, .int .i64 0, .nilslice], none⟩, ⟨none, .store (.t 7) 12 (.t 18), none⟩] (some [7])) (.seq (.block 0 (.seq (.ops [⟨some 20, .loadN (.t 7) 12, none⟩, ⟨some 21, .callF F.slide_slider_safe [.t 20], none⟩, ⟨some 19, .mov (.t 21), none⟩] (some [7, 19])) (.cond (.t 19) (.seq (.ops [⟨some 4, .mov (.c (.int .u8 2)), none⟩, ⟨some 5, .mov (.c (.int .i64 0)), none⟩] (some [4, 5])) (.ret)) (.seq (.ops [⟨some 23, .loadN (.t 7) 12, none⟩, ⟨some 24, .callF F.slide_slider_slowest [.t 23], none⟩, ⟨some 25, .callF F.slide_truth_throwing [.t 24], none⟩, ⟨some 26, .len (.t 25), none⟩, ⟨some 27, .bin .gtr (.t 26) (.c (.int .i64 0)), none⟩, ⟨some 22, .mov (.t 27), none⟩] (some [22])) (.cond (.t 22) (.seq (.ops [⟨some 4, .mov (.c (.int .u8 0)), none⟩, ⟨some 5, .mov (.c (.int .i64 0)), none⟩] (some [4, 5])) (.ret)) (.skip)))))) (.seq (.ops [⟨some 4, .mov (.c (.int .u8 1)), none⟩, ⟨some 5, .mov (.c (.int .i64 0)), none⟩] (some [4, 5])) (.ret)))))
theorem ok_slide_Safe : FnOK Try.prog F.slide_Safe ac_slide_Safe [.t 4, .t 5] 2 := ⟨Try.f43, Try.func43, by kernel_rfl, by kernel_rfl, by kernel_rfl, by kernel_rfl⟩
/- kreisel/kreisellaw03.ready -/
def ac_law03_ready : AC := .seq (.ops [⟨some 2, .box (.t 0), none⟩, ⟨some 3, .box (.t 1), none⟩, ⟨some 4, .mov (.c (.bool false)), none⟩] (some [2, 3])) (.seq (.ops [⟨some 5, .loadN (.t 2) 1, none⟩, ⟨some 6, .callF F.ref01_Great [.t 5], none⟩, ⟨some 7, .not (.t 6), none⟩, ⟨some 8, .mov (.t 7), none⟩, ⟨some 9, .loadN (.t 2) 1, some (8, true)⟩, ⟨some 10, .callF F.ref01_Track [.t 9], some (8, true)⟩, ⟨some 11, .pick (.t 8) (.t 10) (.c (.bool false)), none⟩, ⟨some 12, .mov (.t 11), none⟩, ⟨some 13, .loadN (.t 3) 11, some (12, true)⟩, ⟨some 14, .callF F.ref03_Sled [.t 13], some (12, true)⟩, ⟨some 15, .pick (.t 12) (.t 14) (.c (.bool false)), none⟩, ⟨some 4, .mov (.t 15), none⟩] (some [4])) (.ret))
theorem ok_law03_ready : FnOK Try.prog F.law03_ready ac_law03_ready [.t 4] 2 := ⟨Try.f47, Try.func47, by kernel_rfl, by kernel_rfl, by kernel_rfl, by kernel_rfl⟩
end Go.Proofs
