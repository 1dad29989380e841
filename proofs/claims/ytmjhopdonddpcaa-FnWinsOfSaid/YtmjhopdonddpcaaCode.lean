/-
  The code of each function of the program, taken up. Made by a program.
-/
import Derived.Test.YtmjhopdonddpcaaProg
import Derived.Test.YtmjhopdonddpcaaRxI
import Derived.KernelRfl
namespace Go.Rx.Try
open Go.Proofs
set_option maxRecDepth 100000

abbrev fn_laws_FnRanksOf : FuncId := 3
abbrev fn_laws_FnMiddleOf : FuncId := 4
abbrev fn_laws_FnAgreeOf : FuncId := 5
abbrev fn_laws_FnRankGap : FuncId := 6
abbrev fn_laws_FnFallCounts : FuncId := 7
abbrev fn_laws_FnAgreeChance : FuncId := 8
abbrev fn_laws_FnSplitChance : FuncId := 9
abbrev fn_laws_FnWinsOf : FuncId := 10
abbrev fn_laws_FnWinCounts : FuncId := 11
abbrev fn_laws_FnFlipChance : FuncId := 12
abbrev fn_laws_FnSignedRanks : FuncId := 13
abbrev fn_laws_FnRankSums : FuncId := 14
abbrev fn_spec_DrawRanksOf : FuncId := 15
abbrev fn_impl_RanksOf : FuncId := 16
abbrev fn_laws_equalInts : FuncId := 17
abbrev fn_spec_RanksOf : FuncId := 18
abbrev fn_laws_total : FuncId := 19
abbrev fn_spec_DrawMiddleOf : FuncId := 20
abbrev fn_impl_MiddleOf : FuncId := 21
abbrev fn_spec_MiddleOf : FuncId := 22
abbrev fn_laws_negated : FuncId := 23
abbrev fn_spec_DrawAgreeOf : FuncId := 24
abbrev fn_impl_AgreeOf : FuncId := 25
abbrev fn_spec_AgreeOf : FuncId := 26
abbrev fn_spec_DrawRankGap : FuncId := 27
abbrev fn_impl_RankGap : FuncId := 28
abbrev fn_spec_RankGap : FuncId := 29
abbrev fn_spec_DrawFallCounts : FuncId := 30
abbrev fn_impl_FallCounts : FuncId := 31
abbrev fn_spec_FallCounts : FuncId := 32
abbrev fn_laws_turned : FuncId := 33
abbrev fn_laws_product : FuncId := 34
abbrev fn_spec_DrawAgreeChance : FuncId := 35
abbrev fn_impl_AgreeChance : FuncId := 36
abbrev fn_spec_AgreeChance : FuncId := 37
abbrev fn_spec_DrawSplitChance : FuncId := 38
abbrev fn_impl_SplitChance : FuncId := 39
abbrev fn_spec_SplitChance : FuncId := 40
abbrev fn_laws_choose : FuncId := 41
abbrev fn_spec_DrawWinsOf : FuncId := 42
abbrev fn_impl_WinsOf : FuncId := 43
abbrev fn_spec_WinsOf : FuncId := 44
abbrev fn_spec_DrawWinCounts : FuncId := 45
abbrev fn_impl_WinCounts : FuncId := 46
abbrev fn_spec_WinCounts : FuncId := 47
abbrev fn_spec_DrawFlipChance : FuncId := 48
abbrev fn_impl_FlipChance : FuncId := 49
abbrev fn_spec_FlipChance : FuncId := 50
abbrev fn_laws_raised : FuncId := 51
abbrev fn_spec_DrawSignedRanks : FuncId := 52
abbrev fn_impl_SignedRanks : FuncId := 53
abbrev fn_spec_SignedRanks : FuncId := 54
abbrev fn_spec_DrawRankSums : FuncId := 55
abbrev fn_impl_RankSums : FuncId := 56
abbrev fn_spec_RankSums : FuncId := 57
abbrev fn_spec_someData : FuncId := 58
abbrev fn_spec_newReader : FuncId := 59
abbrev fn_impl_ValidData : FuncId := 60
abbrev fn_impl_twiceRanks : FuncId := 61
abbrev fn_spec_validData : FuncId := 62
abbrev fn_spec_ranks : FuncId := 63
abbrev fn_impl_twiceMiddle : FuncId := 64
abbrev fn_spec_middle : FuncId := 65
abbrev fn_spec_reader_one : FuncId := 66
abbrev fn_spec_dataOf : FuncId := 67
abbrev fn_spec_reader_pick : FuncId := 68
abbrev fn_impl_validPair : FuncId := 69
abbrev fn_impl_AgreeOf_1 : FuncId := 70
abbrev fn_cmp_Compare_int : FuncId := 71
abbrev fn_impl_agreement : FuncId := 72
abbrev fn_spec_validTwo : FuncId := 73
abbrev fn_spec_kendall : FuncId := 74
abbrev fn_impl_withOneMore : FuncId := 75
abbrev fn_spec_inRange : FuncId := 76
abbrev fn_spec_falls : FuncId := 77
abbrev fn_spec_twoSamples : FuncId := 78
abbrev fn_impl_validSamples : FuncId := 79
abbrev fn_slices_Concat_ints : FuncId := 80
abbrev fn_impl_sumAt : FuncId := 81
abbrev fn_impl_firstPlaces : FuncId := 82
abbrev fn_impl_splits : FuncId := 83
abbrev fn_spec_validSamples : FuncId := 84
abbrev fn_spec_atLeast : FuncId := 85
abbrev fn_spec_sum : FuncId := 86
abbrev fn_spec_choose : FuncId := 87
abbrev fn_spec_wins : FuncId := 88
abbrev fn_impl_winsIn : FuncId := 89
abbrev fn_spec_winCounts : FuncId := 90
abbrev fn_spec_flips : FuncId := 91
abbrev fn_spec_power : FuncId := 92
abbrev fn_spec_rankSums : FuncId := 93
abbrev fn_impl_sortedCopy : FuncId := 94
abbrev fn_spec_sorted : FuncId := 95
abbrev fn_cmp_isNaN_int : FuncId := 96
abbrev fn_spec_sign : FuncId := 97
abbrev fn_slices_Grow_ints : FuncId := 98
abbrev fn_impl_places_has : FuncId := 99
abbrev fn_impl_splits_1 : FuncId := 100
abbrev fn_math_bits_OnesCount : FuncId := 101
abbrev fn_slices_Clone_ints : FuncId := 102
abbrev fn_slices_Sort_ints : FuncId := 103
abbrev fn_math_bits_OnesCount32 : FuncId := 104
abbrev fn_math_bits_OnesCount64 : FuncId := 105
abbrev fn_slices_pdqsortOrdered_int : FuncId := 106
abbrev fn_math_bits_Len : FuncId := 107
abbrev fn_slices_insertionSortOrdered_int : FuncId := 108
abbrev fn_slices_heapSortOrdered_int : FuncId := 109
abbrev fn_slices_breakPatternsOrdered_int : FuncId := 110
abbrev fn_slices_choosePivotOrdered_int : FuncId := 111
abbrev fn_slices_reverseRangeOrdered_int : FuncId := 112
abbrev fn_slices_partialInsertionSortOrdered_int : FuncId := 113
abbrev fn_cmp_Less_int : FuncId := 114
abbrev fn_slices_partitionEqualOrdered_int : FuncId := 115
abbrev fn_slices_partitionOrdered_int : FuncId := 116
abbrev fn_math_bits_Len32 : FuncId := 117
abbrev fn_math_bits_Len64 : FuncId := 118
abbrev fn_slices_siftDownOrdered_int : FuncId := 119
abbrev fn_slices_nextPowerOfTwo : FuncId := 120
abbrev fn_slices_xorshift_Next : FuncId := 121
abbrev fn_slices_medianAdjacentOrdered_int : FuncId := 122
abbrev fn_slices_medianOrdered_int : FuncId := 123
abbrev fn_slices_order2Ordered_int : FuncId := 124
abbrev fn_runtime_boundsError_Error : FuncId := 125
abbrev fn_runtime_boundsError_RuntimeError : FuncId := 126
abbrev fn_runtime_errorString_Error : FuncId := 127
abbrev fn_runtime_errorString_RuntimeError : FuncId := 128
abbrev fn_runtime_plainError_Error : FuncId := 129
abbrev fn_runtime_plainError_RuntimeError : FuncId := 130
abbrev fn_runtime_errorAddressString_Error : FuncId := 131
abbrev fn_runtime_errorAddressString_RuntimeError : FuncId := 132
abbrev fn_runtime_TypeAssertionError_Error : FuncId := 133
abbrev fn_runtime_TypeAssertionError_RuntimeError : FuncId := 134
abbrev fn_runtime_PanicNilError_Error : FuncId := 135
abbrev fn_runtime_PanicNilError_RuntimeError : FuncId := 136
abbrev fn_internal_abi_Type_Align : FuncId := 137
abbrev fn_internal_runtime_maps_unhashableTypeError_Error : FuncId := 138
abbrev fn_internal_runtime_maps_unhashableTypeError_RuntimeError : FuncId := 139
abbrev fn_internal_abi_Kind_String : FuncId := 140
theorem mixed : Try.prog.follows .mixedOrders = true := by kernel_rfl

def mc_laws_FnWinsOf : MC :=
  .seq (.reg [⟨some 2, none, .mv (.c (.bool false))⟩]) (.seq (.seq (.reg [⟨some 8, none, .mv (.t 0)⟩, ⟨some 9, none, .len (.t 8)⟩, ⟨some 10, none, .bin .gtr (.t 9) (.c (.int .i64 1048576))⟩]) (.cond (.t 10) (.seq (.reg [⟨some 2, none, .mv (.c (.bool true))⟩]) .ret) .skip)) (.seq (.reg [⟨some 12, none, .mv (.t 0)⟩, ⟨some 13, none, .call fn_spec_DrawWinsOf [.t 12]⟩, ⟨some 11, none, .mv (.t 13)⟩, ⟨some 14, none, .ext (.t 11) 0⟩, ⟨some 15, none, .ext (.t 11) 1⟩, ⟨some 3, none, .mv (.t 14)⟩, ⟨some 4, none, .mv (.t 15)⟩]) (.seq (.reg [⟨some 16, none, .mv (.t 3)⟩, ⟨some 17, none, .mv (.t 4)⟩, ⟨some 18, none, .call fn_impl_WinsOf [.t 16, .t 17]⟩, ⟨some 5, none, .mv (.t 18)⟩]) (.seq (.seq (.reg [⟨some 19, none, .mv (.t 5)⟩, ⟨some 20, none, .mv (.t 3)⟩, ⟨some 21, none, .mv (.t 4)⟩, ⟨some 22, none, .call fn_spec_WinsOf [.t 20, .t 21]⟩, ⟨some 23, none, .bin .neq (.t 19) (.t 22)⟩, ⟨some 24, none, .mv (.t 23)⟩, ⟨some 25, some (24, false), .mv (.t 5)⟩, ⟨some 26, some (24, false), .bin .lss (.t 25) (.c (.int .i64 0))⟩, ⟨some 27, none, .pick (.t 24) (.c (.bool true)) (.t 26)⟩]) (.cond (.t 27) (.seq (.reg [⟨some 28, none, .mv (.t 5)⟩, ⟨some 29, none, .mv (.t 3)⟩, ⟨some 30, none, .mv (.t 4)⟩, ⟨some 31, none, .call fn_spec_WinsOf [.t 29, .t 30]⟩, ⟨some 32, none, .bin .eql (.t 28) (.t 31)⟩, ⟨some 2, none, .mv (.t 32)⟩]) .ret) .skip)) (.seq (.reg [⟨some 33, none, .mv (.t 3)⟩, ⟨some 34, none, .len (.t 33)⟩, ⟨some 6, none, .mv (.t 34)⟩]) (.seq (.reg [⟨some 35, none, .bsl 0 1 [.int .i64 0] []⟩, ⟨some 36, none, .mv (.t 3)⟩, ⟨some 37, none, .app (.t 35) (.t 36) 1 8⟩, ⟨some 38, none, .mv (.t 4)⟩, ⟨some 39, none, .app (.t 37) (.t 38) 1 8⟩, ⟨some 40, none, .call fn_impl_RanksOf [.t 39]⟩, ⟨some 7, none, .mv (.t 40)⟩]) (.seq (.reg [⟨some 41, none, .mv (.t 5)⟩, ⟨some 42, none, .mv (.t 4)⟩, ⟨some 43, none, .mv (.t 3)⟩, ⟨some 44, none, .call fn_impl_WinsOf [.t 42, .t 43]⟩, ⟨some 45, none, .bin .add (.t 41) (.t 44)⟩, ⟨some 46, none, .mv (.t 6)⟩, ⟨some 47, none, .bin .mul (.c (.int .i64 2)) (.t 46)⟩, ⟨some 48, none, .mv (.t 4)⟩, ⟨some 49, none, .len (.t 48)⟩, ⟨some 50, none, .bin .mul (.t 47) (.t 49)⟩, ⟨some 51, none, .bin .eql (.t 45) (.t 50)⟩, ⟨some 52, none, .mv (.t 51)⟩, ⟨some 53, some (52, true), .mv (.t 7)⟩, ⟨some 54, some (52, true), .mv (.t 6)⟩, ⟨some 55, some (52, true), .sl (.t 53) none (some (.t 54)) none 1⟩, ⟨some 56, some (52, true), .call fn_laws_total [.t 55]⟩, ⟨some 57, some (52, true), .mv (.t 5)⟩, ⟨some 58, some (52, true), .mv (.t 6)⟩, ⟨some 59, some (52, true), .mv (.t 6)⟩, ⟨some 60, some (52, true), .bin .add (.t 59) (.c (.int .i64 1))⟩, ⟨some 61, some (52, true), .bin .mul (.t 58) (.t 60)⟩, ⟨some 62, some (52, true), .bin .add (.t 57) (.t 61)⟩, ⟨some 63, some (52, true), .bin .eql (.t 56) (.t 62)⟩, ⟨some 64, none, .pick (.t 52) (.t 63) (.c (.bool false))⟩, ⟨some 2, none, .mv (.t 64)⟩]) .ret)))))))
theorem code_laws_FnWinsOf : HasCode Try.prog fn_laws_FnWinsOf mc_laws_FnWinsOf [.t 2] 65 := ⟨mixed, Try.f10, _, Try.func10, rfl, by kernel_rfl, by kernel_rfl, rfl, by kernel_rfl⟩

def mc_impl_RanksOf : MC :=
  .seq (.reg [⟨some 2, none, .mv (.c .nilSlice)⟩]) (.seq (.seq (.reg [⟨some 3, none, .mv (.t 0)⟩, ⟨some 4, none, .call fn_impl_ValidData [.t 3]⟩, ⟨some 5, none, .un .not (.t 4)⟩]) (.cond (.t 5) (.seq (.reg [⟨some 2, none, .mv (.c .nilSlice)⟩]) .ret) .skip)) (.seq (.reg [⟨some 6, none, .mv (.t 0)⟩, ⟨some 7, none, .call fn_impl_twiceRanks [.t 6]⟩, ⟨some 2, none, .mv (.t 7)⟩]) .ret))
theorem code_impl_RanksOf : HasCode Try.prog fn_impl_RanksOf mc_impl_RanksOf [.t 2] 8 := ⟨mixed, Try.f16, _, Try.func16, rfl, by kernel_rfl, by kernel_rfl, rfl, by kernel_rfl⟩

def mc_laws_total : MC :=
  .seq (.reg [⟨some 2, none, .mv (.c (.int .i64 0))⟩]) (.seq (.reg [⟨some 3, none, .mv (.c (.int .i64 0))⟩]) (.seq (.seq (.reg [⟨some 4, none, .mv (.c (.int .i64 0))⟩]) (.block 0 (.loop (.seq (.seq (.reg [⟨some 5, none, .mv (.t 4)⟩, ⟨some 6, none, .mv (.t 0)⟩, ⟨some 7, none, .len (.t 6)⟩, ⟨some 8, none, .bin .lss (.t 5) (.t 7)⟩]) (.cond (.t 8) .skip (.exit 0))) (.seq (.block 1 (.reg [⟨some 11, none, .mv (.t 3)⟩, ⟨some 12, none, .mv (.t 0)⟩, ⟨some 13, none, .mv (.t 4)⟩, ⟨some 14, none, .ixa (.t 12) (.t 13) 1⟩, ⟨some 15, none, .ld (.t 14) 1 false⟩, ⟨some 16, none, .bin .add (.t 11) (.t 15)⟩, ⟨some 3, none, .mv (.t 16)⟩])) (.reg [⟨some 9, none, .mv (.t 4)⟩, ⟨some 10, none, .bin .add (.t 9) (.c (.int .i64 1))⟩, ⟨some 4, none, .mv (.t 10)⟩])))))) (.seq (.reg [⟨some 17, none, .mv (.t 3)⟩, ⟨some 2, none, .mv (.t 17)⟩]) .ret)))
theorem code_laws_total : HasCode Try.prog fn_laws_total mc_laws_total [.t 2] 18 := ⟨mixed, Try.f19, _, Try.func19, rfl, by kernel_rfl, by kernel_rfl, rfl, by kernel_rfl⟩

def mc_spec_DrawWinsOf : MC :=
  .seq (.reg [⟨some 2, none, .mv (.c .nilSlice)⟩, ⟨some 3, none, .mv (.c .nilSlice)⟩]) (.seq (.reg [⟨some 4, none, .mv (.t 0)⟩, ⟨some 5, none, .call fn_spec_newReader [.t 4]⟩, ⟨some 6, none, .call fn_spec_twoSamples [.t 5]⟩, ⟨some 7, none, .ext (.t 6) 0⟩, ⟨some 8, none, .ext (.t 6) 1⟩, ⟨some 2, none, .mv (.t 7)⟩, ⟨some 3, none, .mv (.t 8)⟩]) .ret)
theorem code_spec_DrawWinsOf : HasCode Try.prog fn_spec_DrawWinsOf mc_spec_DrawWinsOf [.t 2, .t 3] 9 := ⟨mixed, Try.f42, _, Try.func42, rfl, by kernel_rfl, by kernel_rfl, rfl, by kernel_rfl⟩

def mc_impl_WinsOf : MC :=
  .seq (.reg [⟨some 4, none, .mv (.c (.int .i64 0))⟩]) (.seq (.seq (.reg [⟨some 10, none, .mv (.t 0)⟩, ⟨some 11, none, .mv (.t 1)⟩, ⟨some 12, none, .call fn_impl_validSamples [.t 10, .t 11]⟩, ⟨some 13, none, .un .not (.t 12)⟩]) (.cond (.t 13) (.seq (.reg [⟨some 4, none, .mv (.c (.int .i64 (-1)))⟩]) .ret) .skip)) (.seq (.reg [⟨some 5, none, .mv (.c (.int .i64 0))⟩]) (.seq (.seq (.reg [⟨some 14, none, .mv (.t 0)⟩, ⟨some 15, none, .len (.t 14)⟩, ⟨some 16, none, .mv (.c (.int .i64 0))⟩]) (.block 0 (.loop (.seq (.reg [⟨some 17, none, .bin .lss (.t 16) (.t 15)⟩]) (.seq (.cond (.t 17) .skip (.exit 0)) (.seq (.block 1 (.seq (.reg [⟨some 18, none, .ixa (.t 14) (.t 16) 1⟩, ⟨some 19, none, .ld (.t 18) 1 false⟩, ⟨some 7, none, .mv (.t 19)⟩]) (.seq (.reg [⟨some 20, none, .mv (.t 1)⟩, ⟨some 21, none, .len (.t 20)⟩, ⟨some 22, none, .mv (.c (.int .i64 0))⟩]) (.block 2 (.loop (.seq (.reg [⟨some 23, none, .bin .lss (.t 22) (.t 21)⟩]) (.seq (.cond (.t 23) .skip (.exit 2)) (.seq (.block 3 (.seq (.reg [⟨some 24, none, .ixa (.t 20) (.t 22) 1⟩, ⟨some 25, none, .ld (.t 24) 1 false⟩, ⟨some 9, none, .mv (.t 25)⟩]) (.seq (.reg [⟨some 26, none, .mv (.t 7)⟩, ⟨some 27, none, .mv (.t 9)⟩, ⟨some 28, none, .bin .gtr (.t 26) (.t 27)⟩]) (.cond (.t 28) (.reg [⟨some 29, none, .mv (.t 5)⟩, ⟨some 30, none, .bin .add (.t 29) (.c (.int .i64 2))⟩, ⟨some 5, none, .mv (.t 30)⟩]) (.seq (.reg [⟨some 31, none, .mv (.t 7)⟩, ⟨some 32, none, .mv (.t 9)⟩, ⟨some 33, none, .bin .eql (.t 31) (.t 32)⟩]) (.cond (.t 33) (.reg [⟨some 34, none, .mv (.t 5)⟩, ⟨some 35, none, .bin .add (.t 34) (.c (.int .i64 1))⟩, ⟨some 5, none, .mv (.t 35)⟩]) .skip)))))) (.reg [⟨some 36, none, .bin .add (.t 22) (.c (.int .i64 1))⟩, ⟨some 22, none, .mv (.t 36)⟩]))))))))) (.reg [⟨some 37, none, .bin .add (.t 16) (.c (.int .i64 1))⟩, ⟨some 16, none, .mv (.t 37)⟩]))))))) (.seq (.reg [⟨some 38, none, .mv (.t 5)⟩, ⟨some 4, none, .mv (.t 38)⟩]) .ret))))
theorem code_impl_WinsOf : HasCode Try.prog fn_impl_WinsOf mc_impl_WinsOf [.t 4] 39 := ⟨mixed, Try.f43, _, Try.func43, rfl, by kernel_rfl, by kernel_rfl, rfl, by kernel_rfl⟩

def mc_spec_WinsOf : MC :=
  .seq (.reg [⟨some 4, none, .mv (.c (.int .i64 0))⟩]) (.seq (.seq (.reg [⟨some 5, none, .mv (.t 0)⟩, ⟨some 6, none, .mv (.t 1)⟩, ⟨some 7, none, .call fn_spec_validSamples [.t 5, .t 6]⟩, ⟨some 8, none, .un .not (.t 7)⟩]) (.cond (.t 8) (.seq (.reg [⟨some 4, none, .mv (.c (.int .i64 (-1)))⟩]) .ret) .skip)) (.seq (.reg [⟨some 9, none, .mv (.t 0)⟩, ⟨some 10, none, .mv (.t 1)⟩, ⟨some 11, none, .call fn_spec_wins [.t 9, .t 10]⟩, ⟨some 4, none, .mv (.t 11)⟩]) .ret))
theorem code_spec_WinsOf : HasCode Try.prog fn_spec_WinsOf mc_spec_WinsOf [.t 4] 12 := ⟨mixed, Try.f44, _, Try.func44, rfl, by kernel_rfl, by kernel_rfl, rfl, by kernel_rfl⟩

def mc_spec_newReader : MC :=
  .seq (.reg [⟨some 2, none, .mv (.c .nilPtr)⟩]) (.seq (.seq (.reg [⟨some 3, none, .mv (.t 0)⟩, ⟨some 4, none, .len (.t 3)⟩, ⟨some 5, none, .bin .gtr (.t 4) (.c (.int .i64 2000))⟩]) (.cond (.t 5) (.reg [⟨some 6, none, .mv (.t 0)⟩, ⟨some 7, none, .sl (.t 6) none (some (.c (.int .i64 2000))) none 1⟩, ⟨some 0, none, .mv (.t 7)⟩]) .skip)) (.seq (.reg [⟨some 8, none, .mv (.t 0)⟩, ⟨some 9, none, .bld [.nilSlice, .int .i64 0] [(0, 1, .t 8)]⟩, ⟨some 10, none, .box (.t 9)⟩, ⟨some 2, none, .mv (.t 10)⟩]) .ret))
theorem code_spec_newReader : HasCode Try.prog fn_spec_newReader mc_spec_newReader [.t 2] 11 := ⟨mixed, Try.f59, _, Try.func59, rfl, by kernel_rfl, by kernel_rfl, rfl, by kernel_rfl⟩

def mc_impl_ValidData : MC :=
  .seq (.reg [⟨some 2, none, .mv (.c (.bool false))⟩]) (.seq (.seq (.reg [⟨some 5, none, .mv (.t 0)⟩, ⟨some 6, none, .len (.t 5)⟩, ⟨some 7, none, .bin .gtr (.t 6) (.c (.int .i64 10))⟩]) (.cond (.t 7) (.seq (.reg [⟨some 2, none, .mv (.c (.bool false))⟩]) .ret) .skip)) (.seq (.seq (.reg [⟨some 8, none, .mv (.t 0)⟩, ⟨some 9, none, .len (.t 8)⟩, ⟨some 10, none, .mv (.c (.int .i64 0))⟩]) (.block 0 (.loop (.seq (.reg [⟨some 11, none, .bin .lss (.t 10) (.t 9)⟩]) (.seq (.cond (.t 11) .skip (.exit 0)) (.seq (.block 1 (.seq (.reg [⟨some 12, none, .ixa (.t 8) (.t 10) 1⟩, ⟨some 13, none, .ld (.t 12) 1 false⟩, ⟨some 4, none, .mv (.t 13)⟩]) (.seq (.reg [⟨some 14, none, .mv (.t 4)⟩, ⟨some 15, none, .bin .lss (.t 14) (.c (.int .i64 (-200)))⟩, ⟨some 16, none, .mv (.t 15)⟩, ⟨some 17, some (16, false), .mv (.t 4)⟩, ⟨some 18, some (16, false), .bin .gtr (.t 17) (.c (.int .i64 200))⟩, ⟨some 19, none, .pick (.t 16) (.c (.bool true)) (.t 18)⟩]) (.cond (.t 19) (.seq (.reg [⟨some 2, none, .mv (.c (.bool false))⟩]) .ret) .skip)))) (.reg [⟨some 20, none, .bin .add (.t 10) (.c (.int .i64 1))⟩, ⟨some 10, none, .mv (.t 20)⟩]))))))) (.seq (.reg [⟨some 2, none, .mv (.c (.bool true))⟩]) .ret)))
theorem code_impl_ValidData : HasCode Try.prog fn_impl_ValidData mc_impl_ValidData [.t 2] 21 := ⟨mixed, Try.f60, _, Try.func60, rfl, by kernel_rfl, by kernel_rfl, rfl, by kernel_rfl⟩

def mc_impl_twiceRanks : MC :=
  .seq (.reg [⟨some 2, none, .mv (.c .nilSlice)⟩]) (.seq (.reg [⟨some 10, none, .mv (.t 0)⟩, ⟨some 11, none, .len (.t 10)⟩, ⟨some 12, none, .mks (.t 11) (.t 11) [.int .i64 0] 1 8⟩, ⟨some 3, none, .mv (.t 12)⟩]) (.seq (.seq (.reg [⟨some 13, none, .mv (.t 0)⟩, ⟨some 14, none, .len (.t 13)⟩, ⟨some 15, none, .mv (.c (.int .i64 0))⟩]) (.block 0 (.loop (.seq (.reg [⟨some 16, none, .bin .lss (.t 15) (.t 14)⟩]) (.seq (.cond (.t 16) .skip (.exit 0)) (.seq (.block 1 (.seq (.reg [⟨some 17, none, .mv (.t 15)⟩, ⟨some 18, none, .ixa (.t 13) (.t 15) 1⟩, ⟨some 19, none, .ld (.t 18) 1 false⟩, ⟨some 4, none, .mv (.t 17)⟩, ⟨some 5, none, .mv (.t 19)⟩]) (.seq (.reg [⟨some 6, none, .mv (.c (.int .i64 0))⟩, ⟨some 7, none, .mv (.c (.int .i64 0))⟩]) (.seq (.seq (.reg [⟨some 20, none, .mv (.t 0)⟩, ⟨some 21, none, .len (.t 20)⟩, ⟨some 22, none, .mv (.c (.int .i64 0))⟩]) (.block 2 (.loop (.seq (.reg [⟨some 23, none, .bin .lss (.t 22) (.t 21)⟩]) (.seq (.cond (.t 23) .skip (.exit 2)) (.seq (.block 3 (.seq (.reg [⟨some 24, none, .ixa (.t 20) (.t 22) 1⟩, ⟨some 25, none, .ld (.t 24) 1 false⟩, ⟨some 9, none, .mv (.t 25)⟩]) (.seq (.reg [⟨some 26, none, .mv (.t 9)⟩, ⟨some 27, none, .mv (.t 5)⟩, ⟨some 28, none, .bin .lss (.t 26) (.t 27)⟩]) (.cond (.t 28) (.reg [⟨some 29, none, .mv (.t 6)⟩, ⟨some 30, none, .bin .add (.t 29) (.c (.int .i64 1))⟩, ⟨some 6, none, .mv (.t 30)⟩]) (.seq (.reg [⟨some 31, none, .mv (.t 9)⟩, ⟨some 32, none, .mv (.t 5)⟩, ⟨some 33, none, .bin .eql (.t 31) (.t 32)⟩]) (.cond (.t 33) (.reg [⟨some 34, none, .mv (.t 7)⟩, ⟨some 35, none, .bin .add (.t 34) (.c (.int .i64 1))⟩, ⟨some 7, none, .mv (.t 35)⟩]) .skip)))))) (.reg [⟨some 36, none, .bin .add (.t 22) (.c (.int .i64 1))⟩, ⟨some 22, none, .mv (.t 36)⟩]))))))) (.reg [⟨some 37, none, .mv (.t 3)⟩, ⟨some 38, none, .mv (.t 4)⟩, ⟨some 39, none, .mv (.t 6)⟩, ⟨some 40, none, .bin .mul (.c (.int .i64 2)) (.t 39)⟩, ⟨some 41, none, .mv (.t 7)⟩, ⟨some 42, none, .bin .add (.t 40) (.t 41)⟩, ⟨some 43, none, .bin .add (.t 42) (.c (.int .i64 1))⟩, ⟨some 44, none, .ixa (.t 37) (.t 38) 1⟩, ⟨none, none, .st (.t 44) (.t 43) 1⟩]))))) (.reg [⟨some 45, none, .bin .add (.t 15) (.c (.int .i64 1))⟩, ⟨some 15, none, .mv (.t 45)⟩]))))))) (.seq (.reg [⟨some 46, none, .mv (.t 3)⟩, ⟨some 2, none, .mv (.t 46)⟩]) .ret)))
theorem code_impl_twiceRanks : HasCode Try.prog fn_impl_twiceRanks mc_impl_twiceRanks [.t 2] 47 := ⟨mixed, Try.f61, _, Try.func61, rfl, by kernel_rfl, by kernel_rfl, rfl, by kernel_rfl⟩

def mc_spec_validData : MC :=
  .seq (.reg [⟨some 2, none, .mv (.c (.bool false))⟩]) (.seq (.seq (.reg [⟨some 3, none, .mv (.c (.int .i64 0))⟩]) (.block 0 (.loop (.seq (.seq (.reg [⟨some 4, none, .mv (.t 3)⟩, ⟨some 5, none, .mv (.t 0)⟩, ⟨some 6, none, .len (.t 5)⟩, ⟨some 7, none, .bin .lss (.t 4) (.t 6)⟩]) (.cond (.t 7) .skip (.exit 0))) (.seq (.block 1 (.seq (.reg [⟨some 10, none, .mv (.t 0)⟩, ⟨some 11, none, .mv (.t 3)⟩, ⟨some 12, none, .ixa (.t 10) (.t 11) 1⟩, ⟨some 13, none, .ld (.t 12) 1 false⟩, ⟨some 14, none, .call fn_spec_inRange [.t 13, .c (.int .i64 (-200)), .c (.int .i64 200)]⟩, ⟨some 15, none, .un .not (.t 14)⟩]) (.cond (.t 15) (.seq (.reg [⟨some 2, none, .mv (.c (.bool false))⟩]) .ret) .skip))) (.reg [⟨some 8, none, .mv (.t 3)⟩, ⟨some 9, none, .bin .add (.t 8) (.c (.int .i64 1))⟩, ⟨some 3, none, .mv (.t 9)⟩])))))) (.seq (.reg [⟨some 16, none, .mv (.t 0)⟩, ⟨some 17, none, .len (.t 16)⟩, ⟨some 18, none, .bin .leq (.t 17) (.c (.int .i64 10))⟩, ⟨some 2, none, .mv (.t 18)⟩]) .ret))
theorem code_spec_validData : HasCode Try.prog fn_spec_validData mc_spec_validData [.t 2] 19 := ⟨mixed, Try.f62, _, Try.func62, rfl, by kernel_rfl, by kernel_rfl, rfl, by kernel_rfl⟩

def mc_spec_reader_one : MC :=
  .seq (.reg [⟨some 4, none, .mv (.c (.int .i64 0))⟩]) (.seq (.reg [⟨some 5, none, .mv (.t 1)⟩, ⟨some 6, none, .mv (.t 0)⟩, ⟨some 7, none, .mv (.t 1)⟩, ⟨some 8, none, .len (.t 7)⟩, ⟨some 9, none, .call fn_spec_reader_pick [.t 6, .t 8]⟩, ⟨some 10, none, .ixa (.t 5) (.t 9) 1⟩, ⟨some 11, none, .ld (.t 10) 1 false⟩, ⟨some 4, none, .mv (.t 11)⟩]) .ret)
theorem code_spec_reader_one : HasCode Try.prog fn_spec_reader_one mc_spec_reader_one [.t 4] 12 := ⟨mixed, Try.f66, _, Try.func66, rfl, by kernel_rfl, by kernel_rfl, rfl, by kernel_rfl⟩

def mc_spec_dataOf : MC :=
  .seq (.reg [⟨some 4, none, .mv (.c .nilSlice)⟩]) (.seq (.reg [⟨some 7, none, .bsl 0 1 [.int .i64 0] []⟩, ⟨some 5, none, .mv (.t 7)⟩]) (.seq (.reg [⟨some 8, none, .mv (.t 0)⟩, ⟨some 9, none, .bsl 4 1 [.int .i64 0] [(0, .c (.int .i64 3)), (1, .c (.int .i64 10)), (2, .c (.int .i64 40)), (3, .c (.int .i64 200))]⟩, ⟨some 10, none, .call fn_spec_reader_one [.t 8, .t 9]⟩, ⟨some 6, none, .mv (.t 10)⟩]) (.seq (.block 0 (.loop (.seq (.seq (.reg [⟨some 11, none, .mv (.t 5)⟩, ⟨some 12, none, .len (.t 11)⟩, ⟨some 13, none, .mv (.t 1)⟩, ⟨some 14, none, .bin .lss (.t 12) (.t 13)⟩]) (.cond (.t 14) .skip (.exit 0))) (.block 1 (.reg [⟨some 15, none, .mv (.t 5)⟩, ⟨some 16, none, .mv (.t 0)⟩, ⟨some 17, none, .mv (.t 6)⟩, ⟨some 18, none, .bin .mul (.c (.int .i64 2)) (.t 17)⟩, ⟨some 19, none, .bin .add (.t 18) (.c (.int .i64 1))⟩, ⟨some 20, none, .call fn_spec_reader_pick [.t 16, .t 19]⟩, ⟨some 21, none, .bin .rem (.t 20) (.c (.int .i64 401))⟩, ⟨some 22, none, .mv (.t 6)⟩, ⟨some 23, none, .bin .sub (.t 21) (.t 22)⟩, ⟨some 24, none, .bsl 1 1 [.int .i64 0] [(0, .t 23)]⟩, ⟨some 25, none, .app (.t 15) (.t 24) 1 8⟩, ⟨some 5, none, .mv (.t 25)⟩]))))) (.seq (.seq (.reg [⟨some 26, none, .mv (.t 0)⟩, ⟨some 27, none, .call fn_spec_reader_pick [.t 26, .c (.int .i64 40)]⟩]) (.block 2 (.seq (.reg [⟨some 29, none, .bin .eql (.t 27) (.c (.int .i64 0))⟩, ⟨some 28, none, .mv (.t 29)⟩]) (.cond (.t 28) (.seq (.reg [⟨some 30, none, .mv (.t 5)⟩, ⟨some 31, none, .mv (.t 0)⟩, ⟨some 32, none, .bsl 2 1 [.int .i64 0] [(0, .c (.int .i64 201)), (1, .c (.int .i64 (-201)))]⟩, ⟨some 33, none, .call fn_spec_reader_one [.t 31, .t 32]⟩, ⟨some 34, none, .bsl 1 1 [.int .i64 0] [(0, .t 33)]⟩, ⟨some 35, none, .app (.t 30) (.t 34) 1 8⟩, ⟨some 4, none, .mv (.t 35)⟩]) .ret) (.seq (.reg [⟨some 37, none, .bin .eql (.t 27) (.c (.int .i64 1))⟩, ⟨some 36, none, .mv (.t 37)⟩]) (.cond (.t 36) (.seq (.reg [⟨some 38, none, .mv (.t 5)⟩, ⟨some 39, none, .bsl 11 1 [.int .i64 0] [(0, .c (.int .i64 1)), (1, .c (.int .i64 2)), (2, .c (.int .i64 3)), (3, .c (.int .i64 4)), (4, .c (.int .i64 5)), (5, .c (.int .i64 6)), (6, .c (.int .i64 7)), (7, .c (.int .i64 8)), (8, .c (.int .i64 9)), (9, .c (.int .i64 10)), (10, .c (.int .i64 11))]⟩, ⟨some 40, none, .app (.t 38) (.t 39) 1 8⟩, ⟨some 4, none, .mv (.t 40)⟩]) .ret) .skip)))))) (.seq (.reg [⟨some 41, none, .mv (.t 5)⟩, ⟨some 4, none, .mv (.t 41)⟩]) .ret)))))
theorem code_spec_dataOf : HasCode Try.prog fn_spec_dataOf mc_spec_dataOf [.t 4] 42 := ⟨mixed, Try.f67, _, Try.func67, rfl, by kernel_rfl, by kernel_rfl, rfl, by kernel_rfl⟩

def mc_spec_reader_pick : MC :=
  .seq (.reg [⟨some 4, none, .mv (.c (.int .i64 0))⟩]) (.seq (.reg [⟨some 7, none, .mv (.t 0)⟩, ⟨some 8, none, .mv (.t 0)⟩, ⟨some 9, none, .nilck (.t 8)⟩, ⟨some 10, none, .fa (.t 9) 1⟩, ⟨some 11, none, .ld (.t 10) 1 false⟩, ⟨some 12, none, .bin .add (.t 11) (.c (.int .i64 1))⟩, ⟨some 13, none, .nilck (.t 7)⟩, ⟨some 14, none, .fa (.t 13) 1⟩, ⟨none, none, .st (.t 14) (.t 12) 1⟩]) (.seq (.seq (.reg [⟨some 15, none, .mv (.t 1)⟩, ⟨some 16, none, .bin .lss (.t 15) (.c (.int .i64 1))⟩, ⟨some 17, none, .mv (.t 16)⟩, ⟨some 18, some (17, false), .mv (.t 0)⟩, ⟨some 19, some (17, false), .nilck (.t 18)⟩, ⟨some 20, some (17, false), .fa (.t 19) 0⟩, ⟨some 21, some (17, false), .ld (.t 20) 1 false⟩, ⟨some 22, some (17, false), .len (.t 21)⟩, ⟨some 23, some (17, false), .bin .eql (.t 22) (.c (.int .i64 0))⟩, ⟨some 24, none, .pick (.t 17) (.c (.bool true)) (.t 23)⟩]) (.cond (.t 24) (.seq (.reg [⟨some 4, none, .mv (.c (.int .i64 0))⟩]) .ret) .skip)) (.seq (.reg [⟨some 25, none, .mv (.t 0)⟩, ⟨some 26, none, .nilck (.t 25)⟩, ⟨some 27, none, .fa (.t 26) 1⟩, ⟨some 28, none, .ld (.t 27) 1 false⟩, ⟨some 29, none, .bin .sub (.t 28) (.c (.int .i64 1))⟩, ⟨some 5, none, .mv (.t 29)⟩]) (.seq (.seq (.reg [⟨some 30, none, .mv (.t 5)⟩, ⟨some 31, none, .mv (.t 0)⟩, ⟨some 32, none, .nilck (.t 31)⟩, ⟨some 33, none, .fa (.t 32) 0⟩, ⟨some 34, none, .ld (.t 33) 1 false⟩, ⟨some 35, none, .len (.t 34)⟩, ⟨some 36, none, .bin .lss (.t 30) (.t 35)⟩]) (.cond (.t 36) (.seq (.reg [⟨some 37, none, .mv (.t 0)⟩, ⟨some 38, none, .nilck (.t 37)⟩, ⟨some 39, none, .fa (.t 38) 0⟩, ⟨some 40, none, .ld (.t 39) 1 false⟩, ⟨some 41, none, .mv (.t 5)⟩, ⟨some 42, none, .ixa (.t 40) (.t 41) 1⟩, ⟨some 43, none, .ld (.t 42) 1 false⟩, ⟨some 44, none, .conv .i64 (.t 43)⟩, ⟨some 45, none, .mv (.t 1)⟩, ⟨some 46, none, .bin .rem (.t 44) (.t 45)⟩, ⟨some 4, none, .mv (.t 46)⟩]) .ret) .skip)) (.seq (.drq [⟨some 47, none, .mv (.t 0)⟩, ⟨some 48, none, .nilck (.t 47)⟩, ⟨some 49, none, .fa (.t 48) 0⟩, ⟨some 50, none, .ld (.t 49) 1 false⟩, ⟨some 51, none, .mv (.t 5)⟩, ⟨some 52, none, .mv (.t 0)⟩, ⟨some 53, none, .nilck (.t 52)⟩, ⟨some 54, none, .fa (.t 53) 0⟩, ⟨some 55, none, .ld (.t 54) 1 false⟩, ⟨some 56, none, .len (.t 55)⟩, ⟨some 57, none, .bin .rem (.t 51) (.t 56)⟩, ⟨some 58, none, .ixa (.t 50) (.t 57) 1⟩, ⟨some 59, none, .ld (.t 58) 1 false⟩, ⟨some 60, none, .conv .i64 (.t 59)⟩, ⟨some 61, none, .bin .mul (.t 60) (.c (.int .i64 131))⟩, ⟨some 62, none, .mv (.t 0)⟩, ⟨some 63, none, .nilck (.t 62)⟩, ⟨some 64, none, .fa (.t 63) 0⟩, ⟨some 65, none, .ld (.t 64) 1 false⟩, ⟨some 66, none, .mv (.t 5)⟩, ⟨some 67, none, .bin .mul (.t 66) (.c (.int .i64 7))⟩, ⟨some 68, none, .bin .add (.t 67) (.c (.int .i64 3))⟩, ⟨some 69, none, .mv (.t 0)⟩, ⟨some 70, none, .nilck (.t 69)⟩, ⟨some 71, none, .fa (.t 70) 0⟩, ⟨some 72, none, .ld (.t 71) 1 false⟩, ⟨some 73, none, .len (.t 72)⟩, ⟨some 74, none, .bin .rem (.t 68) (.t 73)⟩, ⟨some 75, none, .ixa (.t 65) (.t 74) 1⟩, ⟨some 76, none, .ld (.t 75) 1 false⟩, ⟨some 77, none, .conv .i64 (.t 76)⟩, ⟨some 78, none, .bin .mul (.t 77) (.c (.int .i64 1117))⟩, ⟨some 79, none, .bin .add (.t 61) (.t 78)⟩, ⟨some 80, none, .mv (.t 5)⟩, ⟨some 81, none, .bin .mul (.t 80) (.c (.int .i64 29))⟩, ⟨some 82, none, .bin .add (.t 79) (.t 81)⟩, ⟨some 83, none, .mv (.t 5)⟩, ⟨some 84, none, .mv (.t 0)⟩, ⟨some 85, none, .nilck (.t 84)⟩, ⟨some 86, none, .fa (.t 85) 0⟩, ⟨some 87, none, .ld (.t 86) 1 false⟩, ⟨some 88, none, .len (.t 87)⟩, ⟨some 89, none, .bin .quo (.t 83) (.t 88)⟩, ⟨some 90, none, .bin .mul (.t 89) (.c (.int .i64 53))⟩, ⟨some 91, none, .bin .add (.t 82) (.t 90)⟩, ⟨some 6, none, .mv (.t 91)⟩]) (.seq (.reg [⟨some 92, none, .mv (.t 6)⟩, ⟨some 93, none, .mv (.t 6)⟩, ⟨some 94, none, .bin .quo (.t 93) (.c (.int .i64 64))⟩, ⟨some 95, none, .bin .xor (.t 92) (.t 94)⟩, ⟨some 6, none, .mv (.t 95)⟩]) (.seq (.reg [⟨some 96, none, .mv (.t 6)⟩, ⟨some 97, none, .mv (.t 1)⟩, ⟨some 98, none, .bin .rem (.t 96) (.t 97)⟩, ⟨some 4, none, .mv (.t 98)⟩]) .ret)))))))
theorem code_spec_reader_pick : HasCode Try.prog fn_spec_reader_pick mc_spec_reader_pick [.t 4] 99 := ⟨mixed, Try.f68, _, Try.func68, rfl, by kernel_rfl, by kernel_rfl, rfl, by kernel_rfl⟩

def mc_spec_inRange : MC :=
  .seq (.reg [⟨some 6, none, .mv (.c (.bool false))⟩]) (.seq (.reg [⟨some 7, none, .mv (.t 1)⟩, ⟨some 8, none, .mv (.t 0)⟩, ⟨some 9, none, .bin .leq (.t 7) (.t 8)⟩, ⟨some 10, none, .mv (.t 9)⟩, ⟨some 11, some (10, true), .mv (.t 0)⟩, ⟨some 12, some (10, true), .mv (.t 2)⟩, ⟨some 13, some (10, true), .bin .leq (.t 11) (.t 12)⟩, ⟨some 14, none, .pick (.t 10) (.t 13) (.c (.bool false))⟩, ⟨some 6, none, .mv (.t 14)⟩]) .ret)
theorem code_spec_inRange : HasCode Try.prog fn_spec_inRange mc_spec_inRange [.t 6] 15 := ⟨mixed, Try.f76, _, Try.func76, rfl, by kernel_rfl, by kernel_rfl, rfl, by kernel_rfl⟩

def mc_spec_twoSamples : MC :=
  .seq (.reg [⟨some 2, none, .mv (.c .nilSlice)⟩, ⟨some 3, none, .mv (.c .nilSlice)⟩]) (.seq (.reg [⟨some 5, none, .mv (.t 0)⟩, ⟨some 6, none, .mv (.t 0)⟩, ⟨some 7, none, .bsl 6 1 [.int .i64 0] [(0, .c (.int .i64 3)), (1, .c (.int .i64 2)), (2, .c (.int .i64 4)), (3, .c (.int .i64 1)), (4, .c (.int .i64 5)), (5, .c (.int .i64 0))]⟩, ⟨some 8, none, .call fn_spec_reader_one [.t 6, .t 7]⟩, ⟨some 9, none, .call fn_spec_dataOf [.t 5, .t 8]⟩, ⟨some 4, none, .mv (.t 9)⟩]) (.seq (.reg [⟨some 10, none, .mv (.t 4)⟩, ⟨some 11, none, .mv (.t 0)⟩, ⟨some 12, none, .mv (.t 0)⟩, ⟨some 13, none, .bsl 7 1 [.int .i64 0] [(0, .c (.int .i64 3)), (1, .c (.int .i64 4)), (2, .c (.int .i64 2)), (3, .c (.int .i64 1)), (4, .c (.int .i64 5)), (5, .c (.int .i64 0)), (6, .c (.int .i64 6))]⟩, ⟨some 14, none, .call fn_spec_reader_one [.t 12, .t 13]⟩, ⟨some 15, none, .call fn_spec_dataOf [.t 11, .t 14]⟩, ⟨some 2, none, .mv (.t 10)⟩, ⟨some 3, none, .mv (.t 15)⟩]) .ret))
theorem code_spec_twoSamples : HasCode Try.prog fn_spec_twoSamples mc_spec_twoSamples [.t 2, .t 3] 16 := ⟨mixed, Try.f78, _, Try.func78, rfl, by kernel_rfl, by kernel_rfl, rfl, by kernel_rfl⟩

def mc_impl_validSamples : MC :=
  .seq (.reg [⟨some 4, none, .mv (.c (.bool false))⟩]) (.seq (.reg [⟨some 5, none, .mv (.t 0)⟩, ⟨some 6, none, .len (.t 5)⟩, ⟨some 7, none, .bin .gtr (.t 6) (.c (.int .i64 0))⟩, ⟨some 8, none, .mv (.t 7)⟩, ⟨some 9, some (8, true), .mv (.t 1)⟩, ⟨some 10, some (8, true), .len (.t 9)⟩, ⟨some 11, some (8, true), .bin .gtr (.t 10) (.c (.int .i64 0))⟩, ⟨some 12, none, .pick (.t 8) (.t 11) (.c (.bool false))⟩, ⟨some 13, none, .mv (.t 12)⟩, ⟨some 14, some (13, true), .mv (.t 0)⟩, ⟨some 15, some (13, true), .len (.t 14)⟩, ⟨some 16, some (13, true), .mv (.t 1)⟩, ⟨some 17, some (13, true), .len (.t 16)⟩, ⟨some 18, some (13, true), .bin .add (.t 15) (.t 17)⟩, ⟨some 19, some (13, true), .bin .leq (.t 18) (.c (.int .i64 10))⟩, ⟨some 20, none, .pick (.t 13) (.t 19) (.c (.bool false))⟩, ⟨some 21, none, .mv (.t 20)⟩, ⟨some 22, some (21, true), .mv (.t 0)⟩, ⟨some 23, some (21, true), .call fn_impl_ValidData [.t 22]⟩, ⟨some 24, none, .pick (.t 21) (.t 23) (.c (.bool false))⟩, ⟨some 25, none, .mv (.t 24)⟩, ⟨some 26, some (25, true), .mv (.t 1)⟩, ⟨some 27, some (25, true), .call fn_impl_ValidData [.t 26]⟩, ⟨some 28, none, .pick (.t 25) (.t 27) (.c (.bool false))⟩, ⟨some 4, none, .mv (.t 28)⟩]) .ret)
theorem code_impl_validSamples : HasCode Try.prog fn_impl_validSamples mc_impl_validSamples [.t 4] 29 := ⟨mixed, Try.f79, _, Try.func79, rfl, by kernel_rfl, by kernel_rfl, rfl, by kernel_rfl⟩

def mc_spec_validSamples : MC :=
  .seq (.reg [⟨some 4, none, .mv (.c (.bool false))⟩]) (.seq (.reg [⟨some 5, none, .mv (.t 0)⟩, ⟨some 6, none, .call fn_spec_validData [.t 5]⟩, ⟨some 7, none, .mv (.t 6)⟩, ⟨some 8, some (7, true), .mv (.t 1)⟩, ⟨some 9, some (7, true), .call fn_spec_validData [.t 8]⟩, ⟨some 10, none, .pick (.t 7) (.t 9) (.c (.bool false))⟩, ⟨some 11, none, .mv (.t 10)⟩, ⟨some 12, some (11, true), .mv (.t 0)⟩, ⟨some 13, some (11, true), .len (.t 12)⟩, ⟨some 14, some (11, true), .mv (.t 1)⟩, ⟨some 15, some (11, true), .len (.t 14)⟩, ⟨some 16, some (11, true), .bin .add (.t 13) (.t 15)⟩, ⟨some 17, some (11, true), .bin .leq (.t 16) (.c (.int .i64 10))⟩, ⟨some 18, none, .pick (.t 11) (.t 17) (.c (.bool false))⟩, ⟨some 19, none, .mv (.t 18)⟩, ⟨some 20, some (19, true), .mv (.t 0)⟩, ⟨some 21, some (19, true), .len (.t 20)⟩, ⟨some 22, some (19, true), .bin .gtr (.t 21) (.c (.int .i64 0))⟩, ⟨some 23, none, .pick (.t 19) (.t 22) (.c (.bool false))⟩, ⟨some 24, none, .mv (.t 23)⟩, ⟨some 25, some (24, true), .mv (.t 1)⟩, ⟨some 26, some (24, true), .len (.t 25)⟩, ⟨some 27, some (24, true), .bin .gtr (.t 26) (.c (.int .i64 0))⟩, ⟨some 28, none, .pick (.t 24) (.t 27) (.c (.bool false))⟩, ⟨some 4, none, .mv (.t 28)⟩]) .ret)
theorem code_spec_validSamples : HasCode Try.prog fn_spec_validSamples mc_spec_validSamples [.t 4] 29 := ⟨mixed, Try.f84, _, Try.func84, rfl, by kernel_rfl, by kernel_rfl, rfl, by kernel_rfl⟩

def mc_spec_wins : MC :=
  .seq (.reg [⟨some 4, none, .mv (.c (.int .i64 0))⟩]) (.seq (.reg [⟨some 5, none, .mv (.c (.int .i64 0))⟩]) (.seq (.seq (.reg [⟨some 6, none, .mv (.c (.int .i64 0))⟩]) (.block 0 (.loop (.seq (.seq (.reg [⟨some 8, none, .mv (.t 6)⟩, ⟨some 9, none, .mv (.t 0)⟩, ⟨some 10, none, .len (.t 9)⟩, ⟨some 11, none, .bin .lss (.t 8) (.t 10)⟩]) (.cond (.t 11) .skip (.exit 0))) (.seq (.block 1 (.seq (.reg [⟨some 7, none, .mv (.c (.int .i64 0))⟩]) (.block 2 (.loop (.seq (.seq (.reg [⟨some 14, none, .mv (.t 7)⟩, ⟨some 15, none, .mv (.t 1)⟩, ⟨some 16, none, .len (.t 15)⟩, ⟨some 17, none, .bin .lss (.t 14) (.t 16)⟩]) (.cond (.t 17) .skip (.exit 2))) (.seq (.block 3 (.drq [⟨some 20, none, .mv (.t 5)⟩, ⟨some 21, none, .mv (.t 0)⟩, ⟨some 22, none, .mv (.t 6)⟩, ⟨some 23, none, .ixa (.t 21) (.t 22) 1⟩, ⟨some 24, none, .ld (.t 23) 1 false⟩, ⟨some 25, none, .mv (.t 1)⟩, ⟨some 26, none, .mv (.t 7)⟩, ⟨some 27, none, .ixa (.t 25) (.t 26) 1⟩, ⟨some 28, none, .ld (.t 27) 1 false⟩, ⟨some 29, none, .bin .sub (.t 24) (.t 28)⟩, ⟨some 30, none, .call fn_spec_sign [.t 29]⟩, ⟨some 31, none, .bin .add (.t 20) (.t 30)⟩, ⟨some 32, none, .bin .add (.t 31) (.c (.int .i64 1))⟩, ⟨some 5, none, .mv (.t 32)⟩])) (.reg [⟨some 18, none, .mv (.t 7)⟩, ⟨some 19, none, .bin .add (.t 18) (.c (.int .i64 1))⟩, ⟨some 7, none, .mv (.t 19)⟩]))))))) (.reg [⟨some 12, none, .mv (.t 6)⟩, ⟨some 13, none, .bin .add (.t 12) (.c (.int .i64 1))⟩, ⟨some 6, none, .mv (.t 13)⟩])))))) (.seq (.reg [⟨some 33, none, .mv (.t 5)⟩, ⟨some 4, none, .mv (.t 33)⟩]) .ret)))
theorem code_spec_wins : HasCode Try.prog fn_spec_wins mc_spec_wins [.t 4] 34 := ⟨mixed, Try.f88, _, Try.func88, rfl, by kernel_rfl, by kernel_rfl, rfl, by kernel_rfl⟩

def mc_spec_sign : MC :=
  .seq (.reg [⟨some 2, none, .mv (.c (.int .i64 0))⟩]) (.seq (.seq (.reg [⟨some 3, none, .mv (.t 0)⟩, ⟨some 4, none, .bin .gtr (.t 3) (.c (.int .i64 0))⟩]) (.cond (.t 4) (.seq (.reg [⟨some 2, none, .mv (.c (.int .i64 1))⟩]) .ret) .skip)) (.seq (.seq (.reg [⟨some 5, none, .mv (.t 0)⟩, ⟨some 6, none, .bin .lss (.t 5) (.c (.int .i64 0))⟩]) (.cond (.t 6) (.seq (.reg [⟨some 2, none, .mv (.c (.int .i64 (-1)))⟩]) .ret) .skip)) (.seq (.reg [⟨some 2, none, .mv (.c (.int .i64 0))⟩]) .ret)))
theorem code_spec_sign : HasCode Try.prog fn_spec_sign mc_spec_sign [.t 2] 7 := ⟨mixed, Try.f97, _, Try.func97, rfl, by kernel_rfl, by kernel_rfl, rfl, by kernel_rfl⟩

end Go.Rx.Try
