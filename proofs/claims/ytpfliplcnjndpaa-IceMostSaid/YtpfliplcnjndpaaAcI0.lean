/- The code of functions of the program, as abstract code. -/
import Derived.Test.YtpfliplcnjndpaaAc0
import Derived.Test.YtpfliplcnjndpaaProg
import Derived.KernelRfl
set_option linter.unusedSimpArgs false
set_option linter.unusedVariables false
set_option maxRecDepth 100000
set_option maxHeartbeats 4000000
namespace Go.Proofs
open Go.Abs
abbrev F.law02_IceThicks : FuncId := 3
abbrev F.law02_IceThins : FuncId := 4
abbrev F.law02_IceTrue : FuncId := 5
abbrev F.law02_IceEnds : FuncId := 6
abbrev F.law02_IceGoesOn : FuncId := 7
abbrev F.law02_IceMost : FuncId := 8
abbrev F.law02_IceDrilled : FuncId := 9
abbrev F.ref02_Great : FuncId := 13
abbrev F.ref02_Twin : FuncId := 14
abbrev F.ref02_TwinPlan : FuncId := 15
abbrev F.ice_Loss : FuncId := 16
abbrev F.ref02_Loss : FuncId := 17
abbrev F.ice_Thick : FuncId := 18
abbrev F.ref02_Thick : FuncId := 19
abbrev F.ice_Most : FuncId := 20
abbrev F.ref02_Most : FuncId := 21
abbrev F.ice_Check : FuncId := 22
abbrev F.ref02_Check : FuncId := 23
abbrev F.ref02_Same : FuncId := 24
abbrev F.ref02_SameLists : FuncId := 25
abbrev F.ice_Thin : FuncId := 26
abbrev F.ref02_Thin : FuncId := 27
abbrev F.ice_Safe : FuncId := 28
abbrev F.ref02_Safe : FuncId := 29
abbrev F.ice_Water : FuncId := 30
abbrev F.ref02_Water : FuncId := 31
abbrev F.ref02_SamePairs : FuncId := 32
abbrev F.law02_alive : FuncId := 33
abbrev F.law02_ready : FuncId := 34
abbrev F.law02_drawn : FuncId := 35
abbrev F.law02_chosen : FuncId := 36
abbrev F.law02_truth_goes : FuncId := 37
abbrev F.law02_within : FuncId := 38
abbrev F.law02_end : FuncId := 39
abbrev F.law02_span : FuncId := 40
abbrev F.law02_until : FuncId := 41
abbrev F.law02_IceMost_1 : FuncId := 42
abbrev F.ice_Drill : FuncId := 43
abbrev F.track_Place : FuncId := 44
abbrev F.law02_of : FuncId := 45
abbrev F.law02_choose : FuncId := 46
abbrev F.ref01_Same : FuncId := 52
abbrev F.ice_coat_truths : FuncId := 79
abbrev F.ice_truth_loss : FuncId := 80
abbrev F.ref02_within : FuncId := 81
abbrev F.ref02_loss : FuncId := 82
abbrev F.ice_checkPlan : FuncId := 83
abbrev F.ice_truth_before : FuncId := 84
abbrev F.ref02_Valid : FuncId := 85
abbrev F.ref02_thick : FuncId := 86
abbrev F.slices_Clone_api_Hour_api_Hour : FuncId := 87
abbrev F.ice_coat_worst : FuncId := 88
abbrev F.ice_truth_thin : FuncId := 89
abbrev F.ref02_asks : FuncId := 90
abbrev F.ice_bedded : FuncId := 92
abbrev F.ice_timed : FuncId := 93
abbrev F.ice_ruled : FuncId := 94
abbrev F.ref01_Check : FuncId := 95
abbrev F.ref02_Ice : FuncId := 96
abbrev F.ref02_SameInts : FuncId := 97
abbrev F.ice_truth_thinPairs : FuncId := 98
abbrev F.ref02_thin : FuncId := 99
abbrev F.ref02_Has : FuncId := 106
abbrev F.slices_Clone_api_Stretch_api_Stretch : FuncId := 109
abbrev F.slices_Clone_api_Bed_api_Bed : FuncId := 110
abbrev F.track_pick_api_Span : FuncId := 112
abbrev F.track_Place_1 : FuncId := 113
abbrev F.ref01_SameInts : FuncId := 122
abbrev F.ice_coat_truths_1 : FuncId := 177
abbrev F.ice_coat_hands : FuncId := 180
abbrev F.ice_chosen : FuncId := 181
abbrev F.ice_greatest : FuncId := 182
abbrev F.slices_Contains_int_int : FuncId := 183
abbrev F.ice_coat_least : FuncId := 184
abbrev F.ref02_spanned : FuncId := 186
abbrev F.slices_Index_int_int : FuncId := 252
abbrev F.ice_rules : FuncId := 253
abbrev F.ice_rules_1 : FuncId := 282
abbrev F.ice_rules_2 : FuncId := 283
abbrev F.ice_rules_3 : FuncId := 284
abbrev F.ice_rules_4 : FuncId := 285
/- kreisel/kreisellaw02.IceMost -/
def ac_law02_IceMost : AC := .seq (.ops [⟨some 3, .box (.t 0), none⟩, ⟨some 6, .mov (.c (.bool false)), none⟩] (some [1, 2, 3])) (.seq (.ops [⟨some 13, .callF F.law02_alive [], none⟩, ⟨some 7, .mov (.t 13), none⟩] (some [1, 2, 3, 7])) (.seq (.seq (.ops [⟨some 14, .mov (.t 7), none⟩, ⟨some 15, .not (.t 14), none⟩] (some [1, 2, 3, 7, 15])) (.cond (.t 15) (.seq (.ops [⟨some 6, .mov (.c (.bool false)), none⟩] (some [6])) (.ret)) (.skip))) (.seq (.seq (.ops [⟨some 16, .loadN (.t 3) 10, none⟩, ⟨some 17, .callF F.law02_ready [.t 16], none⟩, ⟨some 18, .not (.t 17), none⟩] (some [1, 2, 3, 7, 18])) (.cond (.t 18) (.seq (.ops [⟨some 19, .mov (.t 7), none⟩, ⟨some 6, .mov (.t 19), none⟩] (some [6])) (.ret)) (.skip))) (.seq (.ops [⟨some 20, .loadN (.t 3) 10, none⟩, ⟨some 21, .mov (.t 1), none⟩, ⟨some 22, .callF F.law02_drawn [.t 20, .t 21, .c (.int .i64 0)], none⟩, ⟨some 8, .alloc [.nilslice], none⟩, ⟨none, .store (.t 8) 1 (.t 22), none⟩] (some [2, 3, 7, 8])) (.seq (.ops [⟨some 23, .mov (.t 2), none⟩, ⟨some 24, .conv .i64 (.t 23), none⟩, ⟨some 25, .fieldAddr (.t 3) 2, none⟩, ⟨some 26, .load1 (.t 25), none⟩, ⟨some 27, .len (.t 26), none⟩, ⟨some 28, .bin .rem (.t 24) (.t 27), none⟩, ⟨some 9, .alloc [.int .i64 0], none⟩, ⟨none, .store (.t 9) 1 (.t 28), none⟩] (some [3, 7, 8, 9])) (.seq (.ops [⟨some 30, .loadN (.t 3) 10, none⟩, ⟨some 31, .load1 (.t 8), none⟩, ⟨some 32, .load1 (.t 9), none⟩, ⟨some 33, .callF F.ice_Most [.t 30, .t 31, .t 32], none⟩, ⟨some 29, .mov (.t 33), none⟩, ⟨some 34, .extract (.t 29) 0, none⟩, ⟨some 35, .extract (.t 29) 1, none⟩, ⟨some 10, .mov (.t 34), none⟩, ⟨some 11, .mov (.t 35), none⟩] (some [3, 7, 8, 9, 10, 11])) (.seq (.ops [⟨some 36, .mkfn (.func F.law02_IceMost_1) [] [.t 3, .t 9, .t 8], none⟩, ⟨some 12, .mov (.t 36), none⟩] (some [7, 10, 11, 12])) (.seq (.seq (.ops [⟨some 37, .mov (.t 11), none⟩, ⟨some 38, .bin .neq (.t 37) (.c (.int .i64 0)), none⟩] (some [7, 10, 11, 12, 38])) (.cond (.t 38) (.seq (.ops [⟨some 39, .mov (.t 7), none⟩, ⟨some 40, .mov (.t 39), none⟩, ⟨some 41, .mov (.t 11), some (40, true)⟩, ⟨some 42, .bin .eql (.t 41) (.c (.int .i64 6)), some (40, true)⟩, ⟨some 43, .pick (.t 40) (.t 42) (.c (.bool false)), none⟩, ⟨some 44, .mov (.t 43), none⟩, ⟨some 45, .mov (.t 12), some (44, true)⟩, ⟨some 46, .callV (.t 45) [.c (.int .i64 0)], some (44, true)⟩, ⟨some 47, .pick (.t 44) (.t 46) (.c (.bool false)), none⟩, ⟨some 6, .mov (.t 47), none⟩] (some [6])) (.ret)) (.skip))) (.seq (.ops [⟨some 48, .mov (.t 7), none⟩, ⟨some 49, .mov (.t 48), none⟩, ⟨some 50, .mov (.t 10), some (49, true)⟩, ⟨some 51, .bin .geq (.t 50) (.c (.int .i64 0)), some (49, true)⟩, ⟨some 52, .pick (.t 49) (.t 51) (.c (.bool false)), none⟩, ⟨some 53, .mov (.t 52), none⟩, ⟨some 54, .mov (.t 10), some (53, true)⟩, ⟨some 55, .bin .leq (.t 54) (.c (.int .i64 60)), some (53, true)⟩, ⟨some 56, .pick (.t 53) (.t 55) (.c (.bool false)), none⟩, ⟨some 57, .mov (.t 56), none⟩, ⟨some 58, .mov (.t 12), some (57, true)⟩, ⟨some 59, .mov (.t 10), some (57, true)⟩, ⟨some 60, .callV (.t 58) [.t 59], some (57, true)⟩, ⟨some 61, .not (.t 60), some (57, true)⟩, ⟨some 62, .pick (.t 57) (.t 61) (.c (.bool false)), none⟩, ⟨some 63, .mov (.t 62), none⟩, ⟨some 64, .mov (.t 10), some (63, true)⟩, ⟨some 65, .bin .eql (.t 64) (.c (.int .i64 60)), some (63, true)⟩, ⟨some 66, .mov (.t 65), some (63, true)⟩, ⟨some 67, .mov (.t 12), some (66, false)⟩, ⟨some 68, .mov (.t 10), some (66, false)⟩, ⟨some 69, .bin .add (.t 68) (.c (.int .i64 1)), some (66, false)⟩, ⟨some 70, .callV (.t 67) [.t 69], some (66, false)⟩, ⟨some 71, .pick (.t 66) (.c (.bool true)) (.t 70), some (63, true)⟩, ⟨some 72, .pick (.t 63) (.t 71) (.c (.bool false)), none⟩, ⟨some 6, .mov (.t 72), none⟩] (some [6])) (.ret))))))))))
theorem ok_law02_IceMost : FnOK Try.prog F.law02_IceMost ac_law02_IceMost [.t 6] 3 := ⟨Try.f8, Try.func8, by kernel_rfl, by kernel_rfl, by kernel_rfl, by kernel_rfl⟩
/- kreisel/kreiselref02.Great -/
def ac_ref02_Great : AC := .seq (.ops [⟨some 2, .box (.t 0), none⟩, ⟨some 4, .mov (.c (.bool false)), none⟩] (some [1, 2])) (.seq (.seq (.ops [⟨some 6, .fieldAddr (.t 2) 0, none⟩, ⟨some 7, .loadN (.t 6) 1, none⟩, ⟨some 8, .callF F.ref01_Great [.t 7], none⟩, ⟨some 9, .mov (.t 8), none⟩, ⟨some 10, .fieldAddr (.t 2) 1, some (9, false)⟩, ⟨some 11, .load1 (.t 10), some (9, false)⟩, ⟨some 12, .len (.t 11), some (9, false)⟩, ⟨some 13, .bin .gtr (.t 12) (.c (.int .i64 20)), some (9, false)⟩, ⟨some 14, .pick (.t 9) (.c (.bool true)) (.t 13), none⟩, ⟨some 15, .mov (.t 14), none⟩, ⟨some 16, .fieldAddr (.t 2) 2, some (15, false)⟩, ⟨some 17, .load1 (.t 16), some (15, false)⟩, ⟨some 18, .len (.t 17), some (15, false)⟩, ⟨some 19, .bin .gtr (.t 18) (.c (.int .i64 12)), some (15, false)⟩, ⟨some 20, .pick (.t 15) (.c (.bool true)) (.t 19), none⟩, ⟨some 21, .mov (.t 20), none⟩, ⟨some 22, .mov (.t 1), some (21, false)⟩, ⟨some 23, .len (.t 22), some (21, false)⟩, ⟨some 24, .bin .gtr (.t 23) (.c (.int .i64 12)), some (21, false)⟩, ⟨some 25, .pick (.t 21) (.c (.bool true)) (.t 24), none⟩] (some [1, 25])) (.cond (.t 25) (.seq (.ops [⟨some 4, .mov (.c (.bool true)), none⟩] (some [4])) (.ret)) (.skip))) (.seq (.seq (.ops [⟨some 5, .mov (.c (.int .i64 0)), none⟩] (some [1, 5])) (.block 0 (.loop (.seq (.seq (.ops [⟨some 26, .mov (.t 5), none⟩, ⟨some 27, .mov (.t 1), none⟩, ⟨some 28, .len (.t 27), none⟩, ⟨some 29, .bin .lss (.t 26) (.t 28), none⟩] (some [1, 5, 29])) (.cond (.t 29) (.skip) (.exit 0))) (.seq (.block 1 (.seq (.ops [⟨some 32, .mov (.t 1), none⟩, ⟨some 33, .mov (.t 5), none⟩, ⟨some 34, .idxSl (.t 32) (.t 33) 1, none⟩, ⟨some 35, .load1 (.t 34), none⟩, ⟨some 36, .len (.t 35), none⟩, ⟨some 37, .bin .gtr (.t 36) (.c (.int .i64 20)), none⟩] (some [1, 5, 37])) (.cond (.t 37) (.seq (.ops [⟨some 4, .mov (.c (.bool true)), none⟩] (some [4])) (.ret)) (.skip)))) (.ops [⟨some 30, .mov (.t 5), none⟩, ⟨some 31, .bin .add (.t 30) (.c (.int .i64 1)), none⟩, ⟨some 5, .mov (.t 31), none⟩] (some [1, 5]))))))) (.seq (.ops [⟨some 4, .mov (.c (.bool false)), none⟩] (some [4])) (.ret))))
theorem ok_ref02_Great : FnOK Try.prog F.ref02_Great ac_ref02_Great [.t 4] 2 := ⟨Try.f13, Try.func13, by kernel_rfl, by kernel_rfl, by kernel_rfl, by kernel_rfl⟩
/- kreisel/kreiselref02.Twin -/
def ac_ref02_Twin : AC := .seq (.ops [⟨some 1, .box (.t 0), none⟩, ⟨some 2, .alloc [.nilslice, .nilslice, .nilslice, .int .i64 0, .int .i64 0, .int .i64 0, .int .i64 0, .int .i64 0, .int .i64 0, .int .i64 0], none⟩] (some [1, 2])) (.seq (.ops [⟨some 3, .fieldAddr (.t 1) 0, none⟩, ⟨some 4, .loadN (.t 3) 1, none⟩, ⟨some 5, .callF F.ref01_Twin [.t 4], none⟩, ⟨some 6, .fieldAddr (.t 1) 0, none⟩, ⟨none, .store (.t 6) 1 (.t 5), none⟩] (some [1, 2])) (.seq (.ops [⟨some 7, .buildSlice [] [] 0 3, none⟩, ⟨some 8, .fieldAddr (.t 1) 1, none⟩, ⟨some 9, .load1 (.t 8), none⟩, ⟨some 10, .append (.t 7) (.t 9) 3 24, none⟩, ⟨some 11, .fieldAddr (.t 1) 1, none⟩, ⟨none, .store (.t 11) 1 (.t 10), none⟩] (some [1, 2])) (.seq (.ops [⟨some 12, .buildSlice [] [] 0 5, none⟩, ⟨some 13, .fieldAddr (.t 1) 2, none⟩, ⟨some 14, .load1 (.t 13), none⟩, ⟨some 15, .append (.t 12) (.t 14) 5 40, none⟩, ⟨some 16, .fieldAddr (.t 1) 2, none⟩, ⟨none, .store (.t 16) 1 (.t 15), none⟩] (some [1, 2])) (.seq (.ops [⟨some 17, .loadN (.t 1) 10, none⟩, ⟨none, .store (.t 2) 10 (.t 17), none⟩] (some [2])) (.ret)))))
theorem ok_ref02_Twin : FnOK Try.prog F.ref02_Twin ac_ref02_Twin [.cellN 2 10] 1 := ⟨Try.f14, Try.func14, by kernel_rfl, by kernel_rfl, by kernel_rfl, by kernel_rfl⟩
/- kreisel/ice.Most -/
def ac_ice_Most : AC := .seq (.ops [⟨some 3, .box (.t 0), none⟩, ⟨some 6, .mov (.c (.int .i64 0)), none⟩, ⟨some 7, .mov (.c (.int .i64 0)), none⟩] (some [1, 2, 3])) (.seq (.seq (.ops [⟨some 11, .loadN (.t 3) 10, none⟩, ⟨some 12, .mov (.t 1), none⟩, ⟨some 13, .callF F.ice_checkPlan [.t 11, .t 12], none⟩, ⟨some 8, .mov (.t 13), none⟩] (some [1, 2, 3, 8])) (.seq (.ops [⟨some 14, .mov (.t 8), none⟩, ⟨some 15, .bin .neq (.t 14) (.c (.int .i64 0)), none⟩] (some [1, 2, 3, 8, 15])) (.cond (.t 15) (.seq (.ops [⟨some 16, .mov (.t 8), none⟩, ⟨some 6, .mov (.c (.int .i64 0)), none⟩, ⟨some 7, .mov (.t 16), none⟩] (some [6, 7])) (.ret)) (.skip)))) (.seq (.seq (.ops [⟨some 17, .fieldAddr (.t 3) 2, none⟩, ⟨some 18, .load1 (.t 17), none⟩, ⟨some 19, .len (.t 18), none⟩, ⟨some 20, .bin .sub (.t 19) (.c (.int .i64 1)), none⟩, ⟨some 21, .callF F.span_UpTo [.t 20], none⟩, ⟨some 22, .mov (.t 2), none⟩, ⟨some 23, .buildSlice [.int .i64 0] [(0, 1, .t 22)] 1 1, none⟩, ⟨some 24, .callF F.span_Within [.t 21, .t 23], none⟩, ⟨some 25, .not (.t 24), none⟩] (some [1, 2, 3, 25])) (.cond (.t 25) (.seq (.ops [⟨some 6, .mov (.c (.int .i64 0)), none⟩, ⟨some 7, .mov (.c (.int .i64 2)), none⟩] (some [6, 7])) (.ret)) (.skip))) (.seq (.ops [⟨some 26, .fieldAddr (.t 3) 2, none⟩, ⟨some 27, .load1 (.t 26), none⟩, ⟨some 28, .callF F.slices_Clone_api_Hour_api_Hour [.t 27], none⟩, ⟨some 29, .fieldAddr (.t 3) 2, none⟩, ⟨none, .store (.t 29) 1 (.t 28), none⟩] (some [1, 2, 3])) (.seq (.seq (.ops [⟨some 30, .mov (.c (.int .i64 0)), none⟩] (some [1, 2, 3, 30])) (.block 0 (.loop (.seq (.ops [⟨some 31, .bin .lss (.t 30) (.c (.int .i64 61)), none⟩] (some [1, 2, 3, 30, 31])) (.seq (.cond (.t 31) (.skip) (.exit 0)) (.seq (.block 1 (.seq (.ops [⟨some 32, .mov (.t 30), none⟩, ⟨some 9, .mov (.t 32), none⟩] (some [1, 2, 3, 9, 30])) (.seq (.ops [⟨some 33, .mov (.t 9), none⟩, ⟨some 34, .bin .sub (.c (.int .i64 60)) (.t 33), none⟩, ⟨some 10, .mov (.t 34), none⟩] (some [1, 2, 3, 10, 30])) (.seq (.ops [⟨some 35, .fieldAddr (.t 3) 2, none⟩, ⟨some 36, .load1 (.t 35), none⟩, ⟨some 37, .mov (.t 2), none⟩, ⟨some 38, .mov (.t 10), none⟩, ⟨some 39, .idxSl (.t 36) (.t 37) 5, none⟩, ⟨some 40, .fieldAddr (.t 39) 2, none⟩, ⟨none, .store (.t 40) 1 (.t 38), none⟩] (some [1, 2, 3, 10, 30])) (.seq (.ops [⟨some 41, .loadN (.t 3) 10, none⟩, ⟨some 42, .build [.nilslice, .nilslice, .nilslice, .int .i64 0, .int .i64 0, .int .i64 0, .int .i64 0, .int .i64 0, .int .i64 0, .int .i64 0] [(0, 10, .t 41)], none⟩, ⟨some 43, .callF F.ice_coat_worst [.t 42], none⟩, ⟨some 44, .mov (.t 1), none⟩, ⟨some 45, .mov (.t 2), none⟩, ⟨some 46, .callF F.ice_truth_thin [.t 43, .t 44, .t 45], none⟩, ⟨some 47, .len (.t 46), none⟩, ⟨some 48, .bin .eql (.t 47) (.c (.int .i64 0)), none⟩] (some [1, 2, 3, 10, 30, 48])) (.cond (.t 48) (.seq (.ops [⟨some 49, .mov (.t 10), none⟩, ⟨some 6, .mov (.t 49), none⟩, ⟨some 7, .mov (.c (.int .i64 0)), none⟩] (some [6, 7])) (.ret)) (.skip))))))) (.ops [⟨some 50, .bin .add (.t 30) (.c (.int .i64 1)), none⟩, ⟨some 30, .mov (.t 50), none⟩] (some [1, 2, 3, 30])))))))) (.seq (.ops [⟨some 6, .mov (.c (.int .i64 0)), none⟩, ⟨some 7, .mov (.c (.int .i64 6)), none⟩] (some [6, 7])) (.ret))))))
theorem ok_ice_Most : FnOK Try.prog F.ice_Most ac_ice_Most [.t 6, .t 7] 3 := ⟨Try.f20, Try.func20, by kernel_rfl, by kernel_rfl, by kernel_rfl, by kernel_rfl⟩
/- kreisel/ice.Check -/
def ac_ice_Check : AC := .seq (.ops [⟨some 1, .box (.t 0), none⟩, ⟨some 2, .mov (.c (.int .i64 0)), none⟩] (some [1])) (.seq (.seq (.ops [⟨some 4, .fieldAddr (.t 1) 0, none⟩, ⟨some 5, .loadN (.t 4) 1, none⟩, ⟨some 6, .callF F.track_Check [.t 5], none⟩, ⟨some 3, .mov (.t 6), none⟩] (some [1, 3])) (.seq (.ops [⟨some 7, .mov (.t 3), none⟩, ⟨some 8, .bin .neq (.t 7) (.c (.int .i64 0)), none⟩] (some [1, 3, 8])) (.cond (.t 8) (.seq (.ops [⟨some 9, .mov (.t 3), none⟩, ⟨some 2, .mov (.t 9), none⟩] (some [2])) (.ret)) (.skip)))) (.seq (.seq (.ops [⟨some 10, .loadN (.t 1) 10, none⟩, ⟨some 11, .callF F.ice_bedded [.t 10], none⟩, ⟨some 12, .not (.t 11), none⟩, ⟨some 13, .mov (.t 12), none⟩, ⟨some 14, .fieldAddr (.t 1) 2, some (13, false)⟩, ⟨some 15, .load1 (.t 14), some (13, false)⟩, ⟨some 16, .callF F.ice_timed [.t 15], some (13, false)⟩, ⟨some 17, .not (.t 16), some (13, false)⟩, ⟨some 18, .pick (.t 13) (.c (.bool true)) (.t 17), none⟩, ⟨some 19, .mov (.t 18), none⟩, ⟨some 20, .loadN (.t 1) 10, some (19, false)⟩, ⟨some 21, .callF F.ice_ruled [.t 20], some (19, false)⟩, ⟨some 22, .not (.t 21), some (19, false)⟩, ⟨some 23, .pick (.t 19) (.c (.bool true)) (.t 22), none⟩] (some [23])) (.cond (.t 23) (.seq (.ops [⟨some 2, .mov (.c (.int .i64 20)), none⟩] (some [2])) (.ret)) (.skip))) (.seq (.ops [⟨some 2, .mov (.c (.int .i64 0)), none⟩] (some [2])) (.ret))))
theorem ok_ice_Check : FnOK Try.prog F.ice_Check ac_ice_Check [.t 2] 1 := ⟨Try.f22, Try.func22, by kernel_rfl, by kernel_rfl, by kernel_rfl, by kernel_rfl⟩
/- kreisel/kreiselref02.Check -/
def ac_ref02_Check : AC := .seq (.ops [⟨some 1, .box (.t 0), none⟩, ⟨some 2, .mov (.c (.int .i64 0)), none⟩] (some [1])) (.seq (.seq (.ops [⟨some 4, .fieldAddr (.t 1) 0, none⟩, ⟨some 5, .loadN (.t 4) 1, none⟩, ⟨some 6, .callF F.ref01_Check [.t 5], none⟩, ⟨some 3, .mov (.t 6), none⟩] (some [1, 3])) (.seq (.ops [⟨some 7, .mov (.t 3), none⟩, ⟨some 8, .bin .neq (.t 7) (.c (.int .i64 0)), none⟩] (some [1, 3, 8])) (.cond (.t 8) (.seq (.ops [⟨some 9, .mov (.t 3), none⟩, ⟨some 2, .mov (.t 9), none⟩] (some [2])) (.ret)) (.skip)))) (.seq (.seq (.ops [⟨some 10, .loadN (.t 1) 10, none⟩, ⟨some 11, .callF F.ref02_Ice [.t 10], none⟩, ⟨some 12, .not (.t 11), none⟩] (some [12])) (.cond (.t 12) (.seq (.ops [⟨some 2, .mov (.c (.int .i64 20)), none⟩] (some [2])) (.ret)) (.skip))) (.seq (.ops [⟨some 2, .mov (.c (.int .i64 0)), none⟩] (some [2])) (.ret))))
theorem ok_ref02_Check : FnOK Try.prog F.ref02_Check ac_ref02_Check [.t 2] 1 := ⟨Try.f23, Try.func23, by kernel_rfl, by kernel_rfl, by kernel_rfl, by kernel_rfl⟩
/- kreisel/ice.Thin -/
def ac_ice_Thin : AC := .seq (.ops [⟨some 2, .box (.t 0), none⟩, ⟨some 4, .mov (.c (.nilslice)), none⟩, ⟨some 5, .mov (.c (.int .i64 0)), none⟩] (some [1, 2])) (.seq (.seq (.ops [⟨some 7, .loadN (.t 2) 10, none⟩, ⟨some 8, .mov (.t 1), none⟩, ⟨some 9, .callF F.ice_checkPlan [.t 7, .t 8], none⟩, ⟨some 6, .mov (.t 9), none⟩] (some [1, 2, 6])) (.seq (.ops [⟨some 10, .mov (.t 6), none⟩, ⟨some 11, .bin .neq (.t 10) (.c (.int .i64 0)), none⟩] (some [1, 2, 6, 11])) (.cond (.t 11) (.seq (.ops [⟨some 12, .mov (.t 6), none⟩, ⟨some 4, .mov (.c (.nilslice)), none⟩, ⟨some 5, .mov (.t 12), none⟩] (some [4, 5])) (.ret)) (.skip)))) (.seq (.ops [⟨some 13, .loadN (.t 2) 10, none⟩, ⟨some 14, .build [.nilslice, .nilslice, .nilslice, .int .i64 0, .int .i64 0, .int .i64 0, .int .i64 0, .int .i64 0, .int .i64 0, .int .i64 0] [(0, 10, .t 13)], none⟩, ⟨some 15, .callF F.ice_coat_worst [.t 14], none⟩, ⟨some 16, .mov (.t 1), none⟩, ⟨some 17, .callF F.ice_truth_thinPairs [.t 15, .t 16], none⟩, ⟨some 4, .mov (.t 17), none⟩, ⟨some 5, .mov (.c (.int .i64 0)), none⟩] (some [4, 5])) (.ret)))
theorem ok_ice_Thin : FnOK Try.prog F.ice_Thin ac_ice_Thin [.t 4, .t 5] 2 := ⟨Try.f26, Try.func26, by kernel_rfl, by kernel_rfl, by kernel_rfl, by kernel_rfl⟩
end Go.Proofs
