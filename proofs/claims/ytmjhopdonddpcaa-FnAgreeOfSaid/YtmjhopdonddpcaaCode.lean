/-
  The code of each function of the program, taken up. Made by a program.
-/
import Derived.Test.YtmjhopdonddpcaaProg
import Derived.Test.YtmjhopdonddpcaaRxI
import Derived.KernelRfl
namespace Go.Rx.Try
open Go.Proofs
set_option maxRecDepth 100000

abbrev fn_laws_FnRanksOf : FuncId := 3
abbrev fn_laws_FnMiddleOf : FuncId := 4
abbrev fn_laws_FnAgreeOf : FuncId := 5
abbrev fn_laws_FnRankGap : FuncId := 6
abbrev fn_laws_FnFallCounts : FuncId := 7
abbrev fn_laws_FnAgreeChance : FuncId := 8
abbrev fn_laws_FnSplitChance : FuncId := 9
abbrev fn_laws_FnWinsOf : FuncId := 10
abbrev fn_laws_FnWinCounts : FuncId := 11
abbrev fn_laws_FnFlipChance : FuncId := 12
abbrev fn_laws_FnSignedRanks : FuncId := 13
abbrev fn_laws_FnRankSums : FuncId := 14
abbrev fn_spec_DrawRanksOf : FuncId := 15
abbrev fn_impl_RanksOf : FuncId := 16
abbrev fn_laws_equalInts : FuncId := 17
abbrev fn_spec_RanksOf : FuncId := 18
abbrev fn_laws_total : FuncId := 19
abbrev fn_spec_DrawMiddleOf : FuncId := 20
abbrev fn_impl_MiddleOf : FuncId := 21
abbrev fn_spec_MiddleOf : FuncId := 22
abbrev fn_laws_negated : FuncId := 23
abbrev fn_spec_DrawAgreeOf : FuncId := 24
abbrev fn_impl_AgreeOf : FuncId := 25
abbrev fn_spec_AgreeOf : FuncId := 26
abbrev fn_spec_DrawRankGap : FuncId := 27
abbrev fn_impl_RankGap : FuncId := 28
abbrev fn_spec_RankGap : FuncId := 29
abbrev fn_spec_DrawFallCounts : FuncId := 30
abbrev fn_impl_FallCounts : FuncId := 31
abbrev fn_spec_FallCounts : FuncId := 32
abbrev fn_laws_turned : FuncId := 33
abbrev fn_laws_product : FuncId := 34
abbrev fn_spec_DrawAgreeChance : FuncId := 35
abbrev fn_impl_AgreeChance : FuncId := 36
abbrev fn_spec_AgreeChance : FuncId := 37
abbrev fn_spec_DrawSplitChance : FuncId := 38
abbrev fn_impl_SplitChance : FuncId := 39
abbrev fn_spec_SplitChance : FuncId := 40
abbrev fn_laws_choose : FuncId := 41
abbrev fn_spec_DrawWinsOf : FuncId := 42
abbrev fn_impl_WinsOf : FuncId := 43
abbrev fn_spec_WinsOf : FuncId := 44
abbrev fn_spec_DrawWinCounts : FuncId := 45
abbrev fn_impl_WinCounts : FuncId := 46
abbrev fn_spec_WinCounts : FuncId := 47
abbrev fn_spec_DrawFlipChance : FuncId := 48
abbrev fn_impl_FlipChance : FuncId := 49
abbrev fn_spec_FlipChance : FuncId := 50
abbrev fn_laws_raised : FuncId := 51
abbrev fn_spec_DrawSignedRanks : FuncId := 52
abbrev fn_impl_SignedRanks : FuncId := 53
abbrev fn_spec_SignedRanks : FuncId := 54
abbrev fn_spec_DrawRankSums : FuncId := 55
abbrev fn_impl_RankSums : FuncId := 56
abbrev fn_spec_RankSums : FuncId := 57
abbrev fn_spec_someData : FuncId := 58
abbrev fn_spec_newReader : FuncId := 59
abbrev fn_impl_ValidData : FuncId := 60
abbrev fn_impl_twiceRanks : FuncId := 61
abbrev fn_spec_validData : FuncId := 62
abbrev fn_spec_ranks : FuncId := 63
abbrev fn_impl_twiceMiddle : FuncId := 64
abbrev fn_spec_middle : FuncId := 65
abbrev fn_spec_reader_one : FuncId := 66
abbrev fn_spec_dataOf : FuncId := 67
abbrev fn_spec_reader_pick : FuncId := 68
abbrev fn_impl_validPair : FuncId := 69
abbrev fn_impl_AgreeOf_1 : FuncId := 70
abbrev fn_cmp_Compare_int : FuncId := 71
abbrev fn_impl_agreement : FuncId := 72
abbrev fn_spec_validTwo : FuncId := 73
abbrev fn_spec_kendall : FuncId := 74
abbrev fn_impl_withOneMore : FuncId := 75
abbrev fn_spec_inRange : FuncId := 76
abbrev fn_spec_falls : FuncId := 77
abbrev fn_spec_twoSamples : FuncId := 78
abbrev fn_impl_validSamples : FuncId := 79
abbrev fn_slices_Concat_ints : FuncId := 80
abbrev fn_impl_sumAt : FuncId := 81
abbrev fn_impl_firstPlaces : FuncId := 82
abbrev fn_impl_splits : FuncId := 83
abbrev fn_spec_validSamples : FuncId := 84
abbrev fn_spec_atLeast : FuncId := 85
abbrev fn_spec_sum : FuncId := 86
abbrev fn_spec_choose : FuncId := 87
abbrev fn_spec_wins : FuncId := 88
abbrev fn_impl_winsIn : FuncId := 89
abbrev fn_spec_winCounts : FuncId := 90
abbrev fn_spec_flips : FuncId := 91
abbrev fn_spec_power : FuncId := 92
abbrev fn_spec_rankSums : FuncId := 93
abbrev fn_impl_sortedCopy : FuncId := 94
abbrev fn_spec_sorted : FuncId := 95
abbrev fn_cmp_isNaN_int : FuncId := 96
abbrev fn_spec_sign : FuncId := 97
abbrev fn_slices_Grow_ints : FuncId := 98
abbrev fn_impl_places_has : FuncId := 99
abbrev fn_impl_splits_1 : FuncId := 100
abbrev fn_math_bits_OnesCount : FuncId := 101
abbrev fn_slices_Clone_ints : FuncId := 102
abbrev fn_slices_Sort_ints : FuncId := 103
abbrev fn_math_bits_OnesCount32 : FuncId := 104
abbrev fn_math_bits_OnesCount64 : FuncId := 105
abbrev fn_slices_pdqsortOrdered_int : FuncId := 106
abbrev fn_math_bits_Len : FuncId := 107
abbrev fn_slices_insertionSortOrdered_int : FuncId := 108
abbrev fn_slices_heapSortOrdered_int : FuncId := 109
abbrev fn_slices_breakPatternsOrdered_int : FuncId := 110
abbrev fn_slices_choosePivotOrdered_int : FuncId := 111
abbrev fn_slices_reverseRangeOrdered_int : FuncId := 112
abbrev fn_slices_partialInsertionSortOrdered_int : FuncId := 113
abbrev fn_cmp_Less_int : FuncId := 114
abbrev fn_slices_partitionEqualOrdered_int : FuncId := 115
abbrev fn_slices_partitionOrdered_int : FuncId := 116
abbrev fn_math_bits_Len32 : FuncId := 117
abbrev fn_math_bits_Len64 : FuncId := 118
abbrev fn_slices_siftDownOrdered_int : FuncId := 119
abbrev fn_slices_nextPowerOfTwo : FuncId := 120
abbrev fn_slices_xorshift_Next : FuncId := 121
abbrev fn_slices_medianAdjacentOrdered_int : FuncId := 122
abbrev fn_slices_medianOrdered_int : FuncId := 123
abbrev fn_slices_order2Ordered_int : FuncId := 124
abbrev fn_runtime_boundsError_Error : FuncId := 125
abbrev fn_runtime_boundsError_RuntimeError : FuncId := 126
abbrev fn_runtime_errorString_Error : FuncId := 127
abbrev fn_runtime_errorString_RuntimeError : FuncId := 128
abbrev fn_runtime_plainError_Error : FuncId := 129
abbrev fn_runtime_plainError_RuntimeError : FuncId := 130
abbrev fn_runtime_errorAddressString_Error : FuncId := 131
abbrev fn_runtime_errorAddressString_RuntimeError : FuncId := 132
abbrev fn_runtime_TypeAssertionError_Error : FuncId := 133
abbrev fn_runtime_TypeAssertionError_RuntimeError : FuncId := 134
abbrev fn_runtime_PanicNilError_Error : FuncId := 135
abbrev fn_runtime_PanicNilError_RuntimeError : FuncId := 136
abbrev fn_internal_abi_Type_Align : FuncId := 137
abbrev fn_internal_runtime_maps_unhashableTypeError_Error : FuncId := 138
abbrev fn_internal_runtime_maps_unhashableTypeError_RuntimeError : FuncId := 139
abbrev fn_internal_abi_Kind_String : FuncId := 140
theorem mixed : Try.prog.follows .mixedOrders = true := by kernel_rfl

def mc_laws_FnAgreeOf : MC :=
  .seq (.reg [⟨some 2, none, .mv (.c (.bool false))⟩]) (.seq (.seq (.reg [⟨some 18, none, .mv (.t 0)⟩, ⟨some 19, none, .len (.t 18)⟩, ⟨some 20, none, .bin .gtr (.t 19) (.c (.int .i64 1048576))⟩]) (.cond (.t 20) (.seq (.reg [⟨some 2, none, .mv (.c (.bool true))⟩]) .ret) .skip)) (.seq (.reg [⟨some 22, none, .mv (.t 0)⟩, ⟨some 23, none, .call fn_spec_DrawAgreeOf [.t 22]⟩, ⟨some 21, none, .mv (.t 23)⟩, ⟨some 24, none, .ext (.t 21) 0⟩, ⟨some 25, none, .ext (.t 21) 1⟩, ⟨some 3, none, .mv (.t 24)⟩, ⟨some 4, none, .mv (.t 25)⟩]) (.seq (.reg [⟨some 27, none, .mv (.t 3)⟩, ⟨some 28, none, .mv (.t 4)⟩, ⟨some 29, none, .call fn_impl_AgreeOf [.t 27, .t 28]⟩, ⟨some 26, none, .mv (.t 29)⟩, ⟨some 30, none, .ext (.t 26) 0⟩, ⟨some 31, none, .ext (.t 26) 1⟩, ⟨some 5, none, .mv (.t 30)⟩, ⟨some 6, none, .mv (.t 31)⟩]) (.seq (.reg [⟨some 33, none, .mv (.t 3)⟩, ⟨some 34, none, .mv (.t 4)⟩, ⟨some 35, none, .call fn_spec_AgreeOf [.t 33, .t 34]⟩, ⟨some 32, none, .mv (.t 35)⟩, ⟨some 36, none, .ext (.t 32) 0⟩, ⟨some 37, none, .ext (.t 32) 1⟩, ⟨some 7, none, .mv (.t 36)⟩, ⟨some 8, none, .mv (.t 37)⟩]) (.seq (.seq (.reg [⟨some 38, none, .mv (.t 5)⟩, ⟨some 39, none, .mv (.t 7)⟩, ⟨some 40, none, .bin .neq (.t 38) (.t 39)⟩, ⟨some 41, none, .mv (.t 40)⟩, ⟨some 42, some (41, false), .mv (.t 6)⟩, ⟨some 43, some (41, false), .mv (.t 8)⟩, ⟨some 44, some (41, false), .beq true (.t 42) (.t 43)⟩, ⟨some 45, none, .pick (.t 41) (.c (.bool true)) (.t 44)⟩, ⟨some 46, none, .mv (.t 45)⟩, ⟨some 47, some (46, false), .mv (.t 6)⟩, ⟨some 48, some (46, false), .un .not (.t 47)⟩, ⟨some 49, none, .pick (.t 46) (.c (.bool true)) (.t 48)⟩]) (.cond (.t 49) (.seq (.reg [⟨some 50, none, .mv (.t 5)⟩, ⟨some 51, none, .mv (.t 7)⟩, ⟨some 52, none, .bin .eql (.t 50) (.t 51)⟩, ⟨some 53, none, .mv (.t 52)⟩, ⟨some 54, some (53, true), .mv (.t 6)⟩, ⟨some 55, some (53, true), .mv (.t 8)⟩, ⟨some 56, some (53, true), .beq false (.t 54) (.t 55)⟩, ⟨some 57, none, .pick (.t 53) (.t 56) (.c (.bool false))⟩, ⟨some 2, none, .mv (.t 57)⟩]) .ret) .skip)) (.seq (.reg [⟨some 59, none, .mv (.t 4)⟩, ⟨some 60, none, .mv (.t 3)⟩, ⟨some 61, none, .call fn_impl_AgreeOf [.t 59, .t 60]⟩, ⟨some 58, none, .mv (.t 61)⟩, ⟨some 62, none, .ext (.t 58) 0⟩, ⟨some 63, none, .ext (.t 58) 1⟩, ⟨some 9, none, .mv (.t 62)⟩, ⟨some 10, none, .mv (.t 63)⟩]) (.seq (.reg [⟨some 65, none, .mv (.t 3)⟩, ⟨some 66, none, .mv (.t 4)⟩, ⟨some 67, none, .call fn_laws_negated [.t 66]⟩, ⟨some 68, none, .call fn_impl_AgreeOf [.t 65, .t 67]⟩, ⟨some 64, none, .mv (.t 68)⟩, ⟨some 69, none, .ext (.t 64) 0⟩, ⟨some 70, none, .ext (.t 64) 1⟩, ⟨some 11, none, .mv (.t 69)⟩, ⟨some 12, none, .mv (.t 70)⟩]) (.seq (.reg [⟨some 72, none, .mv (.t 3)⟩, ⟨some 73, none, .mv (.t 3)⟩, ⟨some 74, none, .call fn_impl_AgreeOf [.t 72, .t 73]⟩, ⟨some 71, none, .mv (.t 74)⟩, ⟨some 75, none, .ext (.t 71) 0⟩, ⟨some 76, none, .ext (.t 71) 1⟩, ⟨some 13, none, .mv (.t 75)⟩, ⟨some 14, none, .mv (.t 76)⟩]) (.seq (.reg [⟨some 15, none, .mv (.c (.int .i64 0))⟩]) (.seq (.seq (.reg [⟨some 16, none, .mv (.c (.int .i64 0))⟩]) (.block 0 (.loop (.seq (.seq (.reg [⟨some 77, none, .mv (.t 16)⟩, ⟨some 78, none, .mv (.t 3)⟩, ⟨some 79, none, .len (.t 78)⟩, ⟨some 80, none, .bin .lss (.t 77) (.t 79)⟩]) (.cond (.t 80) .skip (.exit 0))) (.seq (.block 1 (.seq (.reg [⟨some 17, none, .mv (.c (.int .i64 0))⟩]) (.block 2 (.loop (.seq (.seq (.reg [⟨some 83, none, .mv (.t 17)⟩, ⟨some 84, none, .mv (.t 16)⟩, ⟨some 85, none, .bin .lss (.t 83) (.t 84)⟩]) (.cond (.t 85) .skip (.exit 2))) (.seq (.block 3 (.seq (.drq [⟨some 88, none, .mv (.t 3)⟩, ⟨some 89, none, .mv (.t 16)⟩, ⟨some 90, none, .ixa (.t 88) (.t 89) 1⟩, ⟨some 91, none, .ld (.t 90) 1 false⟩, ⟨some 92, none, .mv (.t 3)⟩, ⟨some 93, none, .mv (.t 17)⟩, ⟨some 94, none, .ixa (.t 92) (.t 93) 1⟩, ⟨some 95, none, .ld (.t 94) 1 false⟩, ⟨some 96, none, .bin .neq (.t 91) (.t 95)⟩]) (.cond (.t 96) (.reg [⟨some 97, none, .mv (.t 15)⟩, ⟨some 98, none, .bin .add (.t 97) (.c (.int .i64 1))⟩, ⟨some 15, none, .mv (.t 98)⟩]) .skip))) (.reg [⟨some 86, none, .mv (.t 17)⟩, ⟨some 87, none, .bin .add (.t 86) (.c (.int .i64 1))⟩, ⟨some 17, none, .mv (.t 87)⟩]))))))) (.reg [⟨some 81, none, .mv (.t 16)⟩, ⟨some 82, none, .bin .add (.t 81) (.c (.int .i64 1))⟩, ⟨some 16, none, .mv (.t 82)⟩])))))) (.seq (.reg [⟨some 99, none, .mv (.t 9)⟩, ⟨some 100, none, .mv (.t 5)⟩, ⟨some 101, none, .bin .eql (.t 99) (.t 100)⟩, ⟨some 102, none, .mv (.t 101)⟩, ⟨some 103, some (102, true), .mv (.t 11)⟩, ⟨some 104, some (102, true), .mv (.t 5)⟩, ⟨some 105, some (102, true), .un .neg (.t 104)⟩, ⟨some 106, some (102, true), .bin .eql (.t 103) (.t 105)⟩, ⟨some 107, none, .pick (.t 102) (.t 106) (.c (.bool false))⟩, ⟨some 108, none, .mv (.t 107)⟩, ⟨some 109, some (108, true), .mv (.t 13)⟩, ⟨some 110, some (108, true), .mv (.t 15)⟩, ⟨some 111, some (108, true), .bin .eql (.t 109) (.t 110)⟩, ⟨some 112, none, .pick (.t 108) (.t 111) (.c (.bool false))⟩, ⟨some 113, none, .mv (.t 112)⟩, ⟨some 114, some (113, true), .mv (.t 5)⟩, ⟨some 115, some (113, true), .mv (.t 15)⟩, ⟨some 116, some (113, true), .bin .leq (.t 114) (.t 115)⟩, ⟨some 117, none, .pick (.t 113) (.t 116) (.c (.bool false))⟩, ⟨some 118, none, .mv (.t 117)⟩, ⟨some 119, some (118, true), .mv (.t 5)⟩, ⟨some 120, some (118, true), .mv (.t 15)⟩, ⟨some 121, some (118, true), .un .neg (.t 120)⟩, ⟨some 122, some (118, true), .bin .geq (.t 119) (.t 121)⟩, ⟨some 123, none, .pick (.t 118) (.t 122) (.c (.bool false))⟩, ⟨some 2, none, .mv (.t 123)⟩]) .ret)))))))))))
theorem code_laws_FnAgreeOf : HasCode Try.prog fn_laws_FnAgreeOf mc_laws_FnAgreeOf [.t 2] 124 := ⟨mixed, Try.f5, _, Try.func5, rfl, by kernel_rfl, by kernel_rfl, rfl, by kernel_rfl⟩

def mc_laws_negated : MC :=
  .seq (.reg [⟨some 2, none, .mv (.c .nilSlice)⟩]) (.seq (.reg [⟨some 5, none, .bsl 0 1 [.int .i64 0] []⟩, ⟨some 3, none, .mv (.t 5)⟩]) (.seq (.seq (.reg [⟨some 4, none, .mv (.c (.int .i64 0))⟩]) (.block 0 (.loop (.seq (.seq (.reg [⟨some 6, none, .mv (.t 4)⟩, ⟨some 7, none, .mv (.t 0)⟩, ⟨some 8, none, .len (.t 7)⟩, ⟨some 9, none, .bin .lss (.t 6) (.t 8)⟩]) (.cond (.t 9) .skip (.exit 0))) (.seq (.block 1 (.reg [⟨some 12, none, .mv (.t 3)⟩, ⟨some 13, none, .mv (.t 0)⟩, ⟨some 14, none, .mv (.t 4)⟩, ⟨some 15, none, .ixa (.t 13) (.t 14) 1⟩, ⟨some 16, none, .ld (.t 15) 1 false⟩, ⟨some 17, none, .un .neg (.t 16)⟩, ⟨some 18, none, .bsl 1 1 [.int .i64 0] [(0, .t 17)]⟩, ⟨some 19, none, .app (.t 12) (.t 18) 1 8⟩, ⟨some 3, none, .mv (.t 19)⟩])) (.reg [⟨some 10, none, .mv (.t 4)⟩, ⟨some 11, none, .bin .add (.t 10) (.c (.int .i64 1))⟩, ⟨some 4, none, .mv (.t 11)⟩])))))) (.seq (.reg [⟨some 20, none, .mv (.t 3)⟩, ⟨some 2, none, .mv (.t 20)⟩]) .ret)))
theorem code_laws_negated : HasCode Try.prog fn_laws_negated mc_laws_negated [.t 2] 21 := ⟨mixed, Try.f23, _, Try.func23, rfl, by kernel_rfl, by kernel_rfl, rfl, by kernel_rfl⟩

def mc_spec_DrawAgreeOf : MC :=
  .seq (.reg [⟨some 2, none, .mv (.c .nilSlice)⟩, ⟨some 3, none, .mv (.c .nilSlice)⟩]) (.seq (.reg [⟨some 8, none, .mv (.t 0)⟩, ⟨some 9, none, .call fn_spec_newReader [.t 8]⟩, ⟨some 4, none, .mv (.t 9)⟩]) (.seq (.reg [⟨some 10, none, .mv (.t 4)⟩, ⟨some 11, none, .bsl 8 1 [.int .i64 0] [(0, .c (.int .i64 4)), (1, .c (.int .i64 5)), (2, .c (.int .i64 6)), (3, .c (.int .i64 3)), (4, .c (.int .i64 2)), (5, .c (.int .i64 8)), (6, .c (.int .i64 1)), (7, .c (.int .i64 0))]⟩, ⟨some 12, none, .call fn_spec_reader_one [.t 10, .t 11]⟩, ⟨some 5, none, .mv (.t 12)⟩]) (.seq (.reg [⟨some 13, none, .mv (.t 4)⟩, ⟨some 14, none, .mv (.t 5)⟩, ⟨some 15, none, .call fn_spec_dataOf [.t 13, .t 14]⟩, ⟨some 6, none, .mv (.t 15)⟩]) (.seq (.reg [⟨some 16, none, .mv (.t 4)⟩, ⟨some 17, none, .mv (.t 5)⟩, ⟨some 18, none, .call fn_spec_dataOf [.t 16, .t 17]⟩, ⟨some 7, none, .mv (.t 18)⟩]) (.seq (.seq (.reg [⟨some 19, none, .mv (.t 4)⟩, ⟨some 20, none, .call fn_spec_reader_pick [.t 19, .c (.int .i64 24)]⟩, ⟨some 21, none, .bin .eql (.t 20) (.c (.int .i64 0))⟩]) (.cond (.t 21) (.reg [⟨some 22, none, .mv (.t 4)⟩, ⟨some 23, none, .call fn_spec_someData [.t 22]⟩, ⟨some 7, none, .mv (.t 23)⟩]) .skip)) (.seq (.reg [⟨some 24, none, .mv (.t 6)⟩, ⟨some 25, none, .mv (.t 7)⟩, ⟨some 2, none, .mv (.t 24)⟩, ⟨some 3, none, .mv (.t 25)⟩]) .ret))))))
theorem code_spec_DrawAgreeOf : HasCode Try.prog fn_spec_DrawAgreeOf mc_spec_DrawAgreeOf [.t 2, .t 3] 26 := ⟨mixed, Try.f24, _, Try.func24, rfl, by kernel_rfl, by kernel_rfl, rfl, by kernel_rfl⟩

def mc_impl_AgreeOf : MC :=
  .seq (.reg [⟨some 4, none, .mv (.c (.int .i64 0))⟩, ⟨some 5, none, .mv (.c (.bool false))⟩]) (.seq (.seq (.reg [⟨some 10, none, .mv (.t 0)⟩, ⟨some 11, none, .mv (.t 1)⟩, ⟨some 12, none, .call fn_impl_validPair [.t 10, .t 11]⟩, ⟨some 13, none, .un .not (.t 12)⟩]) (.cond (.t 13) (.seq (.reg [⟨some 4, none, .mv (.c (.int .i64 0))⟩, ⟨some 5, none, .mv (.c (.bool false))⟩]) .ret) .skip)) (.seq (.reg [⟨some 6, none, .mv (.c (.int .i64 0))⟩]) (.seq (.seq (.reg [⟨some 14, none, .mv (.t 0)⟩, ⟨some 15, none, .len (.t 14)⟩, ⟨some 16, none, .mv (.c (.int .i64 0))⟩]) (.block 0 (.loop (.seq (.reg [⟨some 17, none, .bin .lss (.t 16) (.t 15)⟩]) (.seq (.cond (.t 17) .skip (.exit 0)) (.seq (.block 1 (.seq (.reg [⟨some 18, none, .mv (.t 16)⟩, ⟨some 7, none, .new [.int .i64 0]⟩, ⟨none, none, .st (.t 7) (.t 18) 1⟩]) (.seq (.reg [⟨some 19, none, .ld (.t 7) 1 false⟩, ⟨some 20, none, .mv (.c (.int .i64 0))⟩]) (.block 2 (.loop (.seq (.reg [⟨some 21, none, .bin .lss (.t 20) (.t 19)⟩]) (.seq (.cond (.t 21) .skip (.exit 2)) (.seq (.block 3 (.seq (.reg [⟨some 22, none, .mv (.t 20)⟩, ⟨some 8, none, .new [.int .i64 0]⟩, ⟨none, none, .st (.t 8) (.t 22) 1⟩]) (.seq (.reg [⟨some 23, none, .mkf fn_impl_AgreeOf_1 [.t 8, .t 7]⟩, ⟨some 9, none, .mv (.t 23)⟩]) (.reg [⟨some 24, none, .mv (.t 6)⟩, ⟨some 25, none, .mv (.t 9)⟩, ⟨some 26, none, .mv (.t 0)⟩, ⟨some 27, none, .callv (.t 25) [.t 26]⟩, ⟨some 28, none, .mv (.t 9)⟩, ⟨some 29, none, .mv (.t 1)⟩, ⟨some 30, none, .callv (.t 28) [.t 29]⟩, ⟨some 31, none, .bld [.int .i64 0, .int .i64 0] [(0, 1, .t 27), (1, 1, .t 30)]⟩, ⟨some 32, none, .call fn_impl_agreement [.t 31]⟩, ⟨some 33, none, .bin .add (.t 24) (.t 32)⟩, ⟨some 6, none, .mv (.t 33)⟩])))) (.reg [⟨some 34, none, .bin .add (.t 20) (.c (.int .i64 1))⟩, ⟨some 20, none, .mv (.t 34)⟩]))))))))) (.reg [⟨some 35, none, .bin .add (.t 16) (.c (.int .i64 1))⟩, ⟨some 16, none, .mv (.t 35)⟩]))))))) (.seq (.reg [⟨some 36, none, .mv (.t 6)⟩, ⟨some 4, none, .mv (.t 36)⟩, ⟨some 5, none, .mv (.c (.bool true))⟩]) .ret))))
theorem code_impl_AgreeOf : HasCode Try.prog fn_impl_AgreeOf mc_impl_AgreeOf [.t 4, .t 5] 37 := ⟨mixed, Try.f25, _, Try.func25, rfl, by kernel_rfl, by kernel_rfl, rfl, by kernel_rfl⟩

def mc_spec_AgreeOf : MC :=
  .seq (.reg [⟨some 4, none, .mv (.c (.int .i64 0))⟩, ⟨some 5, none, .mv (.c (.bool false))⟩]) (.seq (.seq (.reg [⟨some 6, none, .mv (.t 0)⟩, ⟨some 7, none, .mv (.t 1)⟩, ⟨some 8, none, .call fn_spec_validTwo [.t 6, .t 7]⟩, ⟨some 9, none, .un .not (.t 8)⟩]) (.cond (.t 9) (.seq (.reg [⟨some 4, none, .mv (.c (.int .i64 0))⟩, ⟨some 5, none, .mv (.c (.bool false))⟩]) .ret) .skip)) (.seq (.reg [⟨some 10, none, .mv (.t 0)⟩, ⟨some 11, none, .mv (.t 1)⟩, ⟨some 12, none, .call fn_spec_kendall [.t 10, .t 11]⟩, ⟨some 4, none, .mv (.t 12)⟩, ⟨some 5, none, .mv (.c (.bool true))⟩]) .ret))
theorem code_spec_AgreeOf : HasCode Try.prog fn_spec_AgreeOf mc_spec_AgreeOf [.t 4, .t 5] 13 := ⟨mixed, Try.f26, _, Try.func26, rfl, by kernel_rfl, by kernel_rfl, rfl, by kernel_rfl⟩

def mc_spec_someData : MC :=
  .seq (.reg [⟨some 2, none, .mv (.c .nilSlice)⟩]) (.seq (.reg [⟨some 3, none, .mv (.t 0)⟩, ⟨some 4, none, .mv (.t 0)⟩, ⟨some 5, none, .bsl 9 1 [.int .i64 0] [(0, .c (.int .i64 4)), (1, .c (.int .i64 5)), (2, .c (.int .i64 6)), (3, .c (.int .i64 3)), (4, .c (.int .i64 2)), (5, .c (.int .i64 8)), (6, .c (.int .i64 1)), (7, .c (.int .i64 0)), (8, .c (.int .i64 10))]⟩, ⟨some 6, none, .call fn_spec_reader_one [.t 4, .t 5]⟩, ⟨some 7, none, .call fn_spec_dataOf [.t 3, .t 6]⟩, ⟨some 2, none, .mv (.t 7)⟩]) .ret)
theorem code_spec_someData : HasCode Try.prog fn_spec_someData mc_spec_someData [.t 2] 8 := ⟨mixed, Try.f58, _, Try.func58, rfl, by kernel_rfl, by kernel_rfl, rfl, by kernel_rfl⟩

def mc_spec_newReader : MC :=
  .seq (.reg [⟨some 2, none, .mv (.c .nilPtr)⟩]) (.seq (.seq (.reg [⟨some 3, none, .mv (.t 0)⟩, ⟨some 4, none, .len (.t 3)⟩, ⟨some 5, none, .bin .gtr (.t 4) (.c (.int .i64 2000))⟩]) (.cond (.t 5) (.reg [⟨some 6, none, .mv (.t 0)⟩, ⟨some 7, none, .sl (.t 6) none (some (.c (.int .i64 2000))) none 1⟩, ⟨some 0, none, .mv (.t 7)⟩]) .skip)) (.seq (.reg [⟨some 8, none, .mv (.t 0)⟩, ⟨some 9, none, .bld [.nilSlice, .int .i64 0] [(0, 1, .t 8)]⟩, ⟨some 10, none, .box (.t 9)⟩, ⟨some 2, none, .mv (.t 10)⟩]) .ret))
theorem code_spec_newReader : HasCode Try.prog fn_spec_newReader mc_spec_newReader [.t 2] 11 := ⟨mixed, Try.f59, _, Try.func59, rfl, by kernel_rfl, by kernel_rfl, rfl, by kernel_rfl⟩

def mc_impl_ValidData : MC :=
  .seq (.reg [⟨some 2, none, .mv (.c (.bool false))⟩]) (.seq (.seq (.reg [⟨some 5, none, .mv (.t 0)⟩, ⟨some 6, none, .len (.t 5)⟩, ⟨some 7, none, .bin .gtr (.t 6) (.c (.int .i64 10))⟩]) (.cond (.t 7) (.seq (.reg [⟨some 2, none, .mv (.c (.bool false))⟩]) .ret) .skip)) (.seq (.seq (.reg [⟨some 8, none, .mv (.t 0)⟩, ⟨some 9, none, .len (.t 8)⟩, ⟨some 10, none, .mv (.c (.int .i64 0))⟩]) (.block 0 (.loop (.seq (.reg [⟨some 11, none, .bin .lss (.t 10) (.t 9)⟩]) (.seq (.cond (.t 11) .skip (.exit 0)) (.seq (.block 1 (.seq (.reg [⟨some 12, none, .ixa (.t 8) (.t 10) 1⟩, ⟨some 13, none, .ld (.t 12) 1 false⟩, ⟨some 4, none, .mv (.t 13)⟩]) (.seq (.reg [⟨some 14, none, .mv (.t 4)⟩, ⟨some 15, none, .bin .lss (.t 14) (.c (.int .i64 (-200)))⟩, ⟨some 16, none, .mv (.t 15)⟩, ⟨some 17, some (16, false), .mv (.t 4)⟩, ⟨some 18, some (16, false), .bin .gtr (.t 17) (.c (.int .i64 200))⟩, ⟨some 19, none, .pick (.t 16) (.c (.bool true)) (.t 18)⟩]) (.cond (.t 19) (.seq (.reg [⟨some 2, none, .mv (.c (.bool false))⟩]) .ret) .skip)))) (.reg [⟨some 20, none, .bin .add (.t 10) (.c (.int .i64 1))⟩, ⟨some 10, none, .mv (.t 20)⟩]))))))) (.seq (.reg [⟨some 2, none, .mv (.c (.bool true))⟩]) .ret)))
theorem code_impl_ValidData : HasCode Try.prog fn_impl_ValidData mc_impl_ValidData [.t 2] 21 := ⟨mixed, Try.f60, _, Try.func60, rfl, by kernel_rfl, by kernel_rfl, rfl, by kernel_rfl⟩

def mc_spec_validData : MC :=
  .seq (.reg [⟨some 2, none, .mv (.c (.bool false))⟩]) (.seq (.seq (.reg [⟨some 3, none, .mv (.c (.int .i64 0))⟩]) (.block 0 (.loop (.seq (.seq (.reg [⟨some 4, none, .mv (.t 3)⟩, ⟨some 5, none, .mv (.t 0)⟩, ⟨some 6, none, .len (.t 5)⟩, ⟨some 7, none, .bin .lss (.t 4) (.t 6)⟩]) (.cond (.t 7) .skip (.exit 0))) (.seq (.block 1 (.seq (.reg [⟨some 10, none, .mv (.t 0)⟩, ⟨some 11, none, .mv (.t 3)⟩, ⟨some 12, none, .ixa (.t 10) (.t 11) 1⟩, ⟨some 13, none, .ld (.t 12) 1 false⟩, ⟨some 14, none, .call fn_spec_inRange [.t 13, .c (.int .i64 (-200)), .c (.int .i64 200)]⟩, ⟨some 15, none, .un .not (.t 14)⟩]) (.cond (.t 15) (.seq (.reg [⟨some 2, none, .mv (.c (.bool false))⟩]) .ret) .skip))) (.reg [⟨some 8, none, .mv (.t 3)⟩, ⟨some 9, none, .bin .add (.t 8) (.c (.int .i64 1))⟩, ⟨some 3, none, .mv (.t 9)⟩])))))) (.seq (.reg [⟨some 16, none, .mv (.t 0)⟩, ⟨some 17, none, .len (.t 16)⟩, ⟨some 18, none, .bin .leq (.t 17) (.c (.int .i64 10))⟩, ⟨some 2, none, .mv (.t 18)⟩]) .ret))
theorem code_spec_validData : HasCode Try.prog fn_spec_validData mc_spec_validData [.t 2] 19 := ⟨mixed, Try.f62, _, Try.func62, rfl, by kernel_rfl, by kernel_rfl, rfl, by kernel_rfl⟩

def mc_spec_reader_one : MC :=
  .seq (.reg [⟨some 4, none, .mv (.c (.int .i64 0))⟩]) (.seq (.reg [⟨some 5, none, .mv (.t 1)⟩, ⟨some 6, none, .mv (.t 0)⟩, ⟨some 7, none, .mv (.t 1)⟩, ⟨some 8, none, .len (.t 7)⟩, ⟨some 9, none, .call fn_spec_reader_pick [.t 6, .t 8]⟩, ⟨some 10, none, .ixa (.t 5) (.t 9) 1⟩, ⟨some 11, none, .ld (.t 10) 1 false⟩, ⟨some 4, none, .mv (.t 11)⟩]) .ret)
theorem code_spec_reader_one : HasCode Try.prog fn_spec_reader_one mc_spec_reader_one [.t 4] 12 := ⟨mixed, Try.f66, _, Try.func66, rfl, by kernel_rfl, by kernel_rfl, rfl, by kernel_rfl⟩

def mc_spec_dataOf : MC :=
  .seq (.reg [⟨some 4, none, .mv (.c .nilSlice)⟩]) (.seq (.reg [⟨some 7, none, .bsl 0 1 [.int .i64 0] []⟩, ⟨some 5, none, .mv (.t 7)⟩]) (.seq (.reg [⟨some 8, none, .mv (.t 0)⟩, ⟨some 9, none, .bsl 4 1 [.int .i64 0] [(0, .c (.int .i64 3)), (1, .c (.int .i64 10)), (2, .c (.int .i64 40)), (3, .c (.int .i64 200))]⟩, ⟨some 10, none, .call fn_spec_reader_one [.t 8, .t 9]⟩, ⟨some 6, none, .mv (.t 10)⟩]) (.seq (.block 0 (.loop (.seq (.seq (.reg [⟨some 11, none, .mv (.t 5)⟩, ⟨some 12, none, .len (.t 11)⟩, ⟨some 13, none, .mv (.t 1)⟩, ⟨some 14, none, .bin .lss (.t 12) (.t 13)⟩]) (.cond (.t 14) .skip (.exit 0))) (.block 1 (.reg [⟨some 15, none, .mv (.t 5)⟩, ⟨some 16, none, .mv (.t 0)⟩, ⟨some 17, none, .mv (.t 6)⟩, ⟨some 18, none, .bin .mul (.c (.int .i64 2)) (.t 17)⟩, ⟨some 19, none, .bin .add (.t 18) (.c (.int .i64 1))⟩, ⟨some 20, none, .call fn_spec_reader_pick [.t 16, .t 19]⟩, ⟨some 21, none, .bin .rem (.t 20) (.c (.int .i64 401))⟩, ⟨some 22, none, .mv (.t 6)⟩, ⟨some 23, none, .bin .sub (.t 21) (.t 22)⟩, ⟨some 24, none, .bsl 1 1 [.int .i64 0] [(0, .t 23)]⟩, ⟨some 25, none, .app (.t 15) (.t 24) 1 8⟩, ⟨some 5, none, .mv (.t 25)⟩]))))) (.seq (.seq (.reg [⟨some 26, none, .mv (.t 0)⟩, ⟨some 27, none, .call fn_spec_reader_pick [.t 26, .c (.int .i64 40)]⟩]) (.block 2 (.seq (.reg [⟨some 29, none, .bin .eql (.t 27) (.c (.int .i64 0))⟩, ⟨some 28, none, .mv (.t 29)⟩]) (.cond (.t 28) (.seq (.reg [⟨some 30, none, .mv (.t 5)⟩, ⟨some 31, none, .mv (.t 0)⟩, ⟨some 32, none, .bsl 2 1 [.int .i64 0] [(0, .c (.int .i64 201)), (1, .c (.int .i64 (-201)))]⟩, ⟨some 33, none, .call fn_spec_reader_one [.t 31, .t 32]⟩, ⟨some 34, none, .bsl 1 1 [.int .i64 0] [(0, .t 33)]⟩, ⟨some 35, none, .app (.t 30) (.t 34) 1 8⟩, ⟨some 4, none, .mv (.t 35)⟩]) .ret) (.seq (.reg [⟨some 37, none, .bin .eql (.t 27) (.c (.int .i64 1))⟩, ⟨some 36, none, .mv (.t 37)⟩]) (.cond (.t 36) (.seq (.reg [⟨some 38, none, .mv (.t 5)⟩, ⟨some 39, none, .bsl 11 1 [.int .i64 0] [(0, .c (.int .i64 1)), (1, .c (.int .i64 2)), (2, .c (.int .i64 3)), (3, .c (.int .i64 4)), (4, .c (.int .i64 5)), (5, .c (.int .i64 6)), (6, .c (.int .i64 7)), (7, .c (.int .i64 8)), (8, .c (.int .i64 9)), (9, .c (.int .i64 10)), (10, .c (.int .i64 11))]⟩, ⟨some 40, none, .app (.t 38) (.t 39) 1 8⟩, ⟨some 4, none, .mv (.t 40)⟩]) .ret) .skip)))))) (.seq (.reg [⟨some 41, none, .mv (.t 5)⟩, ⟨some 4, none, .mv (.t 41)⟩]) .ret)))))
theorem code_spec_dataOf : HasCode Try.prog fn_spec_dataOf mc_spec_dataOf [.t 4] 42 := ⟨mixed, Try.f67, _, Try.func67, rfl, by kernel_rfl, by kernel_rfl, rfl, by kernel_rfl⟩

def mc_spec_reader_pick : MC :=
  .seq (.reg [⟨some 4, none, .mv (.c (.int .i64 0))⟩]) (.seq (.reg [⟨some 7, none, .mv (.t 0)⟩, ⟨some 8, none, .mv (.t 0)⟩, ⟨some 9, none, .nilck (.t 8)⟩, ⟨some 10, none, .fa (.t 9) 1⟩, ⟨some 11, none, .ld (.t 10) 1 false⟩, ⟨some 12, none, .bin .add (.t 11) (.c (.int .i64 1))⟩, ⟨some 13, none, .nilck (.t 7)⟩, ⟨some 14, none, .fa (.t 13) 1⟩, ⟨none, none, .st (.t 14) (.t 12) 1⟩]) (.seq (.seq (.reg [⟨some 15, none, .mv (.t 1)⟩, ⟨some 16, none, .bin .lss (.t 15) (.c (.int .i64 1))⟩, ⟨some 17, none, .mv (.t 16)⟩, ⟨some 18, some (17, false), .mv (.t 0)⟩, ⟨some 19, some (17, false), .nilck (.t 18)⟩, ⟨some 20, some (17, false), .fa (.t 19) 0⟩, ⟨some 21, some (17, false), .ld (.t 20) 1 false⟩, ⟨some 22, some (17, false), .len (.t 21)⟩, ⟨some 23, some (17, false), .bin .eql (.t 22) (.c (.int .i64 0))⟩, ⟨some 24, none, .pick (.t 17) (.c (.bool true)) (.t 23)⟩]) (.cond (.t 24) (.seq (.reg [⟨some 4, none, .mv (.c (.int .i64 0))⟩]) .ret) .skip)) (.seq (.reg [⟨some 25, none, .mv (.t 0)⟩, ⟨some 26, none, .nilck (.t 25)⟩, ⟨some 27, none, .fa (.t 26) 1⟩, ⟨some 28, none, .ld (.t 27) 1 false⟩, ⟨some 29, none, .bin .sub (.t 28) (.c (.int .i64 1))⟩, ⟨some 5, none, .mv (.t 29)⟩]) (.seq (.seq (.reg [⟨some 30, none, .mv (.t 5)⟩, ⟨some 31, none, .mv (.t 0)⟩, ⟨some 32, none, .nilck (.t 31)⟩, ⟨some 33, none, .fa (.t 32) 0⟩, ⟨some 34, none, .ld (.t 33) 1 false⟩, ⟨some 35, none, .len (.t 34)⟩, ⟨some 36, none, .bin .lss (.t 30) (.t 35)⟩]) (.cond (.t 36) (.seq (.reg [⟨some 37, none, .mv (.t 0)⟩, ⟨some 38, none, .nilck (.t 37)⟩, ⟨some 39, none, .fa (.t 38) 0⟩, ⟨some 40, none, .ld (.t 39) 1 false⟩, ⟨some 41, none, .mv (.t 5)⟩, ⟨some 42, none, .ixa (.t 40) (.t 41) 1⟩, ⟨some 43, none, .ld (.t 42) 1 false⟩, ⟨some 44, none, .conv .i64 (.t 43)⟩, ⟨some 45, none, .mv (.t 1)⟩, ⟨some 46, none, .bin .rem (.t 44) (.t 45)⟩, ⟨some 4, none, .mv (.t 46)⟩]) .ret) .skip)) (.seq (.drq [⟨some 47, none, .mv (.t 0)⟩, ⟨some 48, none, .nilck (.t 47)⟩, ⟨some 49, none, .fa (.t 48) 0⟩, ⟨some 50, none, .ld (.t 49) 1 false⟩, ⟨some 51, none, .mv (.t 5)⟩, ⟨some 52, none, .mv (.t 0)⟩, ⟨some 53, none, .nilck (.t 52)⟩, ⟨some 54, none, .fa (.t 53) 0⟩, ⟨some 55, none, .ld (.t 54) 1 false⟩, ⟨some 56, none, .len (.t 55)⟩, ⟨some 57, none, .bin .rem (.t 51) (.t 56)⟩, ⟨some 58, none, .ixa (.t 50) (.t 57) 1⟩, ⟨some 59, none, .ld (.t 58) 1 false⟩, ⟨some 60, none, .conv .i64 (.t 59)⟩, ⟨some 61, none, .bin .mul (.t 60) (.c (.int .i64 131))⟩, ⟨some 62, none, .mv (.t 0)⟩, ⟨some 63, none, .nilck (.t 62)⟩, ⟨some 64, none, .fa (.t 63) 0⟩, ⟨some 65, none, .ld (.t 64) 1 false⟩, ⟨some 66, none, .mv (.t 5)⟩, ⟨some 67, none, .bin .mul (.t 66) (.c (.int .i64 7))⟩, ⟨some 68, none, .bin .add (.t 67) (.c (.int .i64 3))⟩, ⟨some 69, none, .mv (.t 0)⟩, ⟨some 70, none, .nilck (.t 69)⟩, ⟨some 71, none, .fa (.t 70) 0⟩, ⟨some 72, none, .ld (.t 71) 1 false⟩, ⟨some 73, none, .len (.t 72)⟩, ⟨some 74, none, .bin .rem (.t 68) (.t 73)⟩, ⟨some 75, none, .ixa (.t 65) (.t 74) 1⟩, ⟨some 76, none, .ld (.t 75) 1 false⟩, ⟨some 77, none, .conv .i64 (.t 76)⟩, ⟨some 78, none, .bin .mul (.t 77) (.c (.int .i64 1117))⟩, ⟨some 79, none, .bin .add (.t 61) (.t 78)⟩, ⟨some 80, none, .mv (.t 5)⟩, ⟨some 81, none, .bin .mul (.t 80) (.c (.int .i64 29))⟩, ⟨some 82, none, .bin .add (.t 79) (.t 81)⟩, ⟨some 83, none, .mv (.t 5)⟩, ⟨some 84, none, .mv (.t 0)⟩, ⟨some 85, none, .nilck (.t 84)⟩, ⟨some 86, none, .fa (.t 85) 0⟩, ⟨some 87, none, .ld (.t 86) 1 false⟩, ⟨some 88, none, .len (.t 87)⟩, ⟨some 89, none, .bin .quo (.t 83) (.t 88)⟩, ⟨some 90, none, .bin .mul (.t 89) (.c (.int .i64 53))⟩, ⟨some 91, none, .bin .add (.t 82) (.t 90)⟩, ⟨some 6, none, .mv (.t 91)⟩]) (.seq (.reg [⟨some 92, none, .mv (.t 6)⟩, ⟨some 93, none, .mv (.t 6)⟩, ⟨some 94, none, .bin .quo (.t 93) (.c (.int .i64 64))⟩, ⟨some 95, none, .bin .xor (.t 92) (.t 94)⟩, ⟨some 6, none, .mv (.t 95)⟩]) (.seq (.reg [⟨some 96, none, .mv (.t 6)⟩, ⟨some 97, none, .mv (.t 1)⟩, ⟨some 98, none, .bin .rem (.t 96) (.t 97)⟩, ⟨some 4, none, .mv (.t 98)⟩]) .ret)))))))
theorem code_spec_reader_pick : HasCode Try.prog fn_spec_reader_pick mc_spec_reader_pick [.t 4] 99 := ⟨mixed, Try.f68, _, Try.func68, rfl, by kernel_rfl, by kernel_rfl, rfl, by kernel_rfl⟩

def mc_impl_validPair : MC :=
  .seq (.reg [⟨some 4, none, .mv (.c (.bool false))⟩]) (.seq (.reg [⟨some 5, none, .mv (.t 0)⟩, ⟨some 6, none, .call fn_impl_ValidData [.t 5]⟩, ⟨some 7, none, .mv (.t 6)⟩, ⟨some 8, some (7, true), .mv (.t 1)⟩, ⟨some 9, some (7, true), .call fn_impl_ValidData [.t 8]⟩, ⟨some 10, none, .pick (.t 7) (.t 9) (.c (.bool false))⟩, ⟨some 11, none, .mv (.t 10)⟩, ⟨some 12, some (11, true), .mv (.t 0)⟩, ⟨some 13, some (11, true), .len (.t 12)⟩, ⟨some 14, some (11, true), .mv (.t 1)⟩, ⟨some 15, some (11, true), .len (.t 14)⟩, ⟨some 16, some (11, true), .bin .eql (.t 13) (.t 15)⟩, ⟨some 17, none, .pick (.t 11) (.t 16) (.c (.bool false))⟩, ⟨some 4, none, .mv (.t 17)⟩]) .ret)
theorem code_impl_validPair : HasCode Try.prog fn_impl_validPair mc_impl_validPair [.t 4] 18 := ⟨mixed, Try.f69, _, Try.func69, rfl, by kernel_rfl, by kernel_rfl, rfl, by kernel_rfl⟩

def mc_impl_AgreeOf_1 : MC :=
  .seq (.reg [⟨some 4, none, .mv (.c (.int .i64 0))⟩]) (.seq (.drq [⟨some 5, none, .mv (.t 0)⟩, ⟨some 6, none, .ld (.t 1) 1 false⟩, ⟨some 7, none, .ixa (.t 5) (.t 6) 1⟩, ⟨some 8, none, .ld (.t 7) 1 false⟩, ⟨some 9, none, .mv (.t 0)⟩, ⟨some 10, none, .ld (.t 2) 1 false⟩, ⟨some 11, none, .ixa (.t 9) (.t 10) 1⟩, ⟨some 12, none, .ld (.t 11) 1 false⟩, ⟨some 13, none, .call fn_cmp_Compare_int [.t 8, .t 12]⟩, ⟨some 4, none, .mv (.t 13)⟩]) .ret)
theorem code_impl_AgreeOf_1 : HasCode Try.prog fn_impl_AgreeOf_1 mc_impl_AgreeOf_1 [.t 4] 14 := ⟨mixed, Try.f70, _, Try.func70, rfl, by kernel_rfl, by kernel_rfl, rfl, by kernel_rfl⟩

def mc_cmp_Compare_int : MC :=
  .seq (.reg [⟨some 4, none, .mv (.c (.int .i64 0))⟩]) (.seq (.reg [⟨some 7, none, .mv (.t 0)⟩, ⟨some 8, none, .call fn_cmp_isNaN_int [.t 7]⟩, ⟨some 5, none, .mv (.t 8)⟩]) (.seq (.reg [⟨some 9, none, .mv (.t 1)⟩, ⟨some 10, none, .call fn_cmp_isNaN_int [.t 9]⟩, ⟨some 6, none, .mv (.t 10)⟩]) (.seq (.seq (.reg [⟨some 11, none, .mv (.t 5)⟩]) (.cond (.t 11) (.seq (.seq (.reg [⟨some 12, none, .mv (.t 6)⟩]) (.cond (.t 12) (.seq (.reg [⟨some 4, none, .mv (.c (.int .i64 0))⟩]) .ret) .skip)) (.seq (.reg [⟨some 4, none, .mv (.c (.int .i64 (-1)))⟩]) .ret)) .skip)) (.seq (.seq (.reg [⟨some 13, none, .mv (.t 6)⟩]) (.cond (.t 13) (.seq (.reg [⟨some 4, none, .mv (.c (.int .i64 1))⟩]) .ret) .skip)) (.seq (.seq (.reg [⟨some 14, none, .mv (.t 0)⟩, ⟨some 15, none, .mv (.t 1)⟩, ⟨some 16, none, .bin .lss (.t 14) (.t 15)⟩]) (.cond (.t 16) (.seq (.reg [⟨some 4, none, .mv (.c (.int .i64 (-1)))⟩]) .ret) .skip)) (.seq (.seq (.reg [⟨some 17, none, .mv (.t 0)⟩, ⟨some 18, none, .mv (.t 1)⟩, ⟨some 19, none, .bin .gtr (.t 17) (.t 18)⟩]) (.cond (.t 19) (.seq (.reg [⟨some 4, none, .mv (.c (.int .i64 1))⟩]) .ret) .skip)) (.seq (.reg [⟨some 4, none, .mv (.c (.int .i64 0))⟩]) .ret)))))))
theorem code_cmp_Compare_int : HasCode Try.prog fn_cmp_Compare_int mc_cmp_Compare_int [.t 4] 20 := ⟨mixed, Try.f71, _, Try.func71, rfl, by kernel_rfl, by kernel_rfl, rfl, by kernel_rfl⟩

def mc_impl_agreement : MC :=
  .seq (.reg [⟨some 1, none, .box (.t 0)⟩, ⟨some 2, none, .mv (.c (.int .i64 0))⟩]) (.seq (.seq (.reg [⟨some 3, none, .ld (.t 1) 2 true⟩]) (.block 0 (.seq (.seq (.reg [⟨some 5, none, .bld [.int .i64 0, .int .i64 0] [(0, 1, .c (.int .i64 (-1))), (1, 1, .c (.int .i64 (-1)))]⟩, ⟨some 6, none, .ageq false 2 (.t 3) (.t 5)⟩, ⟨some 4, none, .mv (.t 6)⟩]) (.cond (.t 4) .skip (.reg [⟨some 7, none, .bld [.int .i64 0, .int .i64 0] [(0, 1, .c (.int .i64 1)), (1, 1, .c (.int .i64 1))]⟩, ⟨some 8, none, .ageq false 2 (.t 3) (.t 7)⟩, ⟨some 4, none, .mv (.t 8)⟩]))) (.cond (.t 4) (.seq (.reg [⟨some 2, none, .mv (.c (.int .i64 1))⟩]) .ret) (.seq (.seq (.reg [⟨some 10, none, .bld [.int .i64 0, .int .i64 0] [(0, 1, .c (.int .i64 (-1))), (1, 1, .c (.int .i64 1))]⟩, ⟨some 11, none, .ageq false 2 (.t 3) (.t 10)⟩, ⟨some 9, none, .mv (.t 11)⟩]) (.cond (.t 9) .skip (.reg [⟨some 12, none, .bld [.int .i64 0, .int .i64 0] [(0, 1, .c (.int .i64 1)), (1, 1, .c (.int .i64 (-1)))]⟩, ⟨some 13, none, .ageq false 2 (.t 3) (.t 12)⟩, ⟨some 9, none, .mv (.t 13)⟩]))) (.cond (.t 9) (.seq (.reg [⟨some 2, none, .mv (.c (.int .i64 (-1)))⟩]) .ret) .skip)))))) (.seq (.reg [⟨some 2, none, .mv (.c (.int .i64 0))⟩]) .ret))
theorem code_impl_agreement : HasCode Try.prog fn_impl_agreement mc_impl_agreement [.t 2] 14 := ⟨mixed, Try.f72, _, Try.func72, rfl, by kernel_rfl, by kernel_rfl, rfl, by kernel_rfl⟩

def mc_spec_validTwo : MC :=
  .seq (.reg [⟨some 4, none, .mv (.c (.bool false))⟩]) (.seq (.reg [⟨some 5, none, .mv (.t 0)⟩, ⟨some 6, none, .call fn_spec_validData [.t 5]⟩, ⟨some 7, none, .mv (.t 6)⟩, ⟨some 8, some (7, true), .mv (.t 1)⟩, ⟨some 9, some (7, true), .call fn_spec_validData [.t 8]⟩, ⟨some 10, none, .pick (.t 7) (.t 9) (.c (.bool false))⟩, ⟨some 11, none, .mv (.t 10)⟩, ⟨some 12, some (11, true), .mv (.t 0)⟩, ⟨some 13, some (11, true), .len (.t 12)⟩, ⟨some 14, some (11, true), .mv (.t 1)⟩, ⟨some 15, some (11, true), .len (.t 14)⟩, ⟨some 16, some (11, true), .bin .eql (.t 13) (.t 15)⟩, ⟨some 17, none, .pick (.t 11) (.t 16) (.c (.bool false))⟩, ⟨some 4, none, .mv (.t 17)⟩]) .ret)
theorem code_spec_validTwo : HasCode Try.prog fn_spec_validTwo mc_spec_validTwo [.t 4] 18 := ⟨mixed, Try.f73, _, Try.func73, rfl, by kernel_rfl, by kernel_rfl, rfl, by kernel_rfl⟩

def mc_spec_kendall : MC :=
  .seq (.reg [⟨some 4, none, .mv (.c (.int .i64 0))⟩]) (.seq (.reg [⟨some 5, none, .mv (.c (.int .i64 0))⟩]) (.seq (.seq (.reg [⟨some 6, none, .mv (.c (.int .i64 0))⟩]) (.block 0 (.loop (.seq (.seq (.reg [⟨some 8, none, .mv (.t 6)⟩, ⟨some 9, none, .mv (.t 0)⟩, ⟨some 10, none, .len (.t 9)⟩, ⟨some 11, none, .bin .lss (.t 8) (.t 10)⟩]) (.cond (.t 11) .skip (.exit 0))) (.seq (.block 1 (.seq (.reg [⟨some 7, none, .mv (.c (.int .i64 0))⟩]) (.block 2 (.loop (.seq (.seq (.reg [⟨some 14, none, .mv (.t 7)⟩, ⟨some 15, none, .mv (.t 6)⟩, ⟨some 16, none, .bin .lss (.t 14) (.t 15)⟩]) (.cond (.t 16) .skip (.exit 2))) (.seq (.block 3 (.drq [⟨some 19, none, .mv (.t 5)⟩, ⟨some 20, none, .mv (.t 0)⟩, ⟨some 21, none, .mv (.t 6)⟩, ⟨some 22, none, .ixa (.t 20) (.t 21) 1⟩, ⟨some 23, none, .ld (.t 22) 1 false⟩, ⟨some 24, none, .mv (.t 0)⟩, ⟨some 25, none, .mv (.t 7)⟩, ⟨some 26, none, .ixa (.t 24) (.t 25) 1⟩, ⟨some 27, none, .ld (.t 26) 1 false⟩, ⟨some 28, none, .bin .sub (.t 23) (.t 27)⟩, ⟨some 29, none, .call fn_spec_sign [.t 28]⟩, ⟨some 30, none, .mv (.t 1)⟩, ⟨some 31, none, .mv (.t 6)⟩, ⟨some 32, none, .ixa (.t 30) (.t 31) 1⟩, ⟨some 33, none, .ld (.t 32) 1 false⟩, ⟨some 34, none, .mv (.t 1)⟩, ⟨some 35, none, .mv (.t 7)⟩, ⟨some 36, none, .ixa (.t 34) (.t 35) 1⟩, ⟨some 37, none, .ld (.t 36) 1 false⟩, ⟨some 38, none, .bin .sub (.t 33) (.t 37)⟩, ⟨some 39, none, .call fn_spec_sign [.t 38]⟩, ⟨some 40, none, .bin .mul (.t 29) (.t 39)⟩, ⟨some 41, none, .bin .add (.t 19) (.t 40)⟩, ⟨some 5, none, .mv (.t 41)⟩])) (.reg [⟨some 17, none, .mv (.t 7)⟩, ⟨some 18, none, .bin .add (.t 17) (.c (.int .i64 1))⟩, ⟨some 7, none, .mv (.t 18)⟩]))))))) (.reg [⟨some 12, none, .mv (.t 6)⟩, ⟨some 13, none, .bin .add (.t 12) (.c (.int .i64 1))⟩, ⟨some 6, none, .mv (.t 13)⟩])))))) (.seq (.reg [⟨some 42, none, .mv (.t 5)⟩, ⟨some 4, none, .mv (.t 42)⟩]) .ret)))
theorem code_spec_kendall : HasCode Try.prog fn_spec_kendall mc_spec_kendall [.t 4] 43 := ⟨mixed, Try.f74, _, Try.func74, rfl, by kernel_rfl, by kernel_rfl, rfl, by kernel_rfl⟩

def mc_spec_inRange : MC :=
  .seq (.reg [⟨some 6, none, .mv (.c (.bool false))⟩]) (.seq (.reg [⟨some 7, none, .mv (.t 1)⟩, ⟨some 8, none, .mv (.t 0)⟩, ⟨some 9, none, .bin .leq (.t 7) (.t 8)⟩, ⟨some 10, none, .mv (.t 9)⟩, ⟨some 11, some (10, true), .mv (.t 0)⟩, ⟨some 12, some (10, true), .mv (.t 2)⟩, ⟨some 13, some (10, true), .bin .leq (.t 11) (.t 12)⟩, ⟨some 14, none, .pick (.t 10) (.t 13) (.c (.bool false))⟩, ⟨some 6, none, .mv (.t 14)⟩]) .ret)
theorem code_spec_inRange : HasCode Try.prog fn_spec_inRange mc_spec_inRange [.t 6] 15 := ⟨mixed, Try.f76, _, Try.func76, rfl, by kernel_rfl, by kernel_rfl, rfl, by kernel_rfl⟩

def mc_cmp_isNaN_int : MC :=
  .seq (.reg [⟨some 2, none, .mv (.c (.bool false))⟩]) (.seq (.reg [⟨some 3, none, .mv (.t 0)⟩, ⟨some 4, none, .mv (.t 0)⟩, ⟨some 5, none, .bin .neq (.t 3) (.t 4)⟩, ⟨some 2, none, .mv (.t 5)⟩]) .ret)
theorem code_cmp_isNaN_int : HasCode Try.prog fn_cmp_isNaN_int mc_cmp_isNaN_int [.t 2] 6 := ⟨mixed, Try.f96, _, Try.func96, rfl, by kernel_rfl, by kernel_rfl, rfl, by kernel_rfl⟩

def mc_spec_sign : MC :=
  .seq (.reg [⟨some 2, none, .mv (.c (.int .i64 0))⟩]) (.seq (.seq (.reg [⟨some 3, none, .mv (.t 0)⟩, ⟨some 4, none, .bin .gtr (.t 3) (.c (.int .i64 0))⟩]) (.cond (.t 4) (.seq (.reg [⟨some 2, none, .mv (.c (.int .i64 1))⟩]) .ret) .skip)) (.seq (.seq (.reg [⟨some 5, none, .mv (.t 0)⟩, ⟨some 6, none, .bin .lss (.t 5) (.c (.int .i64 0))⟩]) (.cond (.t 6) (.seq (.reg [⟨some 2, none, .mv (.c (.int .i64 (-1)))⟩]) .ret) .skip)) (.seq (.reg [⟨some 2, none, .mv (.c (.int .i64 0))⟩]) .ret)))
theorem code_spec_sign : HasCode Try.prog fn_spec_sign mc_spec_sign [.t 2] 7 := ⟨mixed, Try.f97, _, Try.func97, rfl, by kernel_rfl, by kernel_rfl, rfl, by kernel_rfl⟩

end Go.Rx.Try
