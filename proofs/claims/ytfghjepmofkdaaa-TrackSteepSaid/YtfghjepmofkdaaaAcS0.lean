/- The code of functions of the program, as abstract code. -/
import Derived.Test.YtfghjepmofkdaaaAc0
import Derived.Test.YtfghjepmofkdaaaProg
import Derived.KernelRfl
set_option linter.unusedSimpArgs false
set_option linter.unusedVariables false
set_option maxRecDepth 100000
set_option maxHeartbeats 4000000
namespace Go.Proofs
open Go.Abs
abbrev F.law03_SlideWithin : FuncId := 6
abbrev F.law03_SlideEnds : FuncId := 7
abbrev F.law03_SlideThrown : FuncId := 8
abbrev F.law03_SlideMore : FuncId := 9
abbrev F.law03_SlideStart : FuncId := 10
abbrev F.law03_SlideWalls : FuncId := 11
abbrev F.law03_SlideShut : FuncId := 12
abbrev F.law03_SlideLeast : FuncId := 13
abbrev F.law03_alive : FuncId := 31
abbrev F.slide_Walls : FuncId := 33
abbrev F.slide_Least : FuncId := 36
abbrev F.law03_span : FuncId := 38
abbrev F.slide_Heads : FuncId := 39
abbrev F.slide_Speed : FuncId := 40
abbrev F.slide_Height : FuncId := 41
abbrev F.slide_Names : FuncId := 42
abbrev F.slide_Safe : FuncId := 43
abbrev F.slide_Shut : FuncId := 44
abbrev F.slide_Start : FuncId := 45
abbrev F.law03_ready : FuncId := 47
abbrev F.law03_truth : FuncId := 48
abbrev F.law03_inside : FuncId := 49
abbrev F.law03_ends : FuncId := 50
abbrev F.law03_wider : FuncId := 51
abbrev F.ref03_Sled : FuncId := 52
abbrev F.law03_SlideStart_1 : FuncId := 54
abbrev F.law03_some : FuncId := 58
abbrev F.law03_choose : FuncId := 59
abbrev F.slide_checkAll : FuncId := 101
abbrev F.slide_slider_fastest : FuncId := 102
abbrev F.slide_truth_within : FuncId := 103
abbrev F.slide_straight : FuncId := 104
abbrev F.slide_truth_height : FuncId := 105
abbrev F.slide_speedUp : FuncId := 106
abbrev F.slide_truth_long : FuncId := 107
abbrev F.slide_slider_slowest : FuncId := 108
abbrev F.slide_truth_heads : FuncId := 109
abbrev F.slide_speedOf : FuncId := 110
abbrev F.slide_truth_throwing : FuncId := 111
abbrev F.slide_first_int : FuncId := 112
abbrev F.slide_Names_1 : FuncId := 113
abbrev F.slide_truth_throws : FuncId := 114
abbrev F.slide_slider_safe : FuncId := 115
abbrev F.slide_Start_1 : FuncId := 116
abbrev F.slide_right : FuncId := 117
abbrev F.ref03_Next : FuncId := 118
abbrev F.ref03_within : FuncId := 119
abbrev F.ref03_span : FuncId := 120
abbrev F.span_High : FuncId := 137
abbrev F.span_Low : FuncId := 138
abbrev F.slide_speedUp_1 : FuncId := 153
abbrev F.slide_truth_heads_1 : FuncId := 154
abbrev F.slide_truth_next : FuncId := 155
abbrev F.slide_speedOf_1 : FuncId := 156
abbrev F.slices_Sorted_int : FuncId := 157
abbrev F.maps_Keys_map_int_int_int_int : FuncId := 158
abbrev F.span_Valid : FuncId := 159
abbrev F.slide_limits : FuncId := 160
abbrev F.slide_forces : FuncId := 175
abbrev F.slices_Collect_int : FuncId := 176
abbrev F.slices_Sort_int_int : FuncId := 177
abbrev F.maps_Keys_map_int_int_int_int_1 : FuncId := 178
abbrev F.cmp_isNaN_int : FuncId := 189
abbrev F.slide_forces_1 : FuncId := 190
abbrev F.slide_truth_air : FuncId := 191
abbrev F.slide_truth_fall : FuncId := 192
abbrev F.slide_truth_ice : FuncId := 193
abbrev F.slices_AppendSeq_int_int : FuncId := 194
abbrev F.slices_pdqsortOrdered_int : FuncId := 195
abbrev F.math_bits_Len : FuncId := 196
abbrev F.slices_insertionSortOrdered_int : FuncId := 197
abbrev F.slices_heapSortOrdered_int : FuncId := 198
abbrev F.slices_breakPatternsOrdered_int : FuncId := 199
abbrev F.slices_choosePivotOrdered_int : FuncId := 200
abbrev F.slices_reverseRangeOrdered_int : FuncId := 201
abbrev F.slices_partialInsertionSortOrdered_int : FuncId := 202
abbrev F.cmp_Less_int : FuncId := 203
abbrev F.slices_partitionEqualOrdered_int : FuncId := 204
abbrev F.slices_partitionOrdered_int : FuncId := 205
abbrev F.math_bits_Len32 : FuncId := 206
abbrev F.math_bits_Len64 : FuncId := 207
abbrev F.slices_siftDownOrdered_int : FuncId := 208
abbrev F.slices_nextPowerOfTwo : FuncId := 209
abbrev F.slices_xorshift_Next : FuncId := 210
abbrev F.slices_medianAdjacentOrdered_int : FuncId := 211
abbrev F.slices_medianOrdered_int : FuncId := 212
abbrev F.slices_order2Ordered_int : FuncId := 213
end Go.Proofs
