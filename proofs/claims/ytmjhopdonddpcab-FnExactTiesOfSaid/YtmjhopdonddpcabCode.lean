/-
  The code of each function of the program, taken up. Made by a program.
-/
import Derived.Test.YtmjhopdonddpcabProg
import Derived.Test.YtmjhopdonddpcabRxI
import Derived.KernelRfl
namespace Go.Rx.Try
open Go.Proofs
set_option maxRecDepth 100000

abbrev fn_laws_FnRunCount : FuncId := 3
abbrev fn_laws_FnExactValidData : FuncId := 4
abbrev fn_laws_FnExactRanksOf : FuncId := 5
abbrev fn_laws_FnExactTiesOf : FuncId := 6
abbrev fn_laws_FnExactMiddleOf : FuncId := 7
abbrev fn_laws_FnExactAgreeOf : FuncId := 8
abbrev fn_laws_FnExactRankGap : FuncId := 9
abbrev fn_laws_FnExactFallCounts : FuncId := 10
abbrev fn_laws_FnExactAgreeChance : FuncId := 11
abbrev fn_laws_FnExactSplitChance : FuncId := 12
abbrev fn_laws_FnExactWinsOf : FuncId := 13
abbrev fn_laws_FnExactWinCounts : FuncId := 14
abbrev fn_spec_DrawRunCount : FuncId := 15
abbrev fn_impl_RunCount : FuncId := 16
abbrev fn_spec_RunCount : FuncId := 17
abbrev fn_laws_choose : FuncId := 18
abbrev fn_spec_ValidData : FuncId := 19
abbrev fn_laws_toIntS : FuncId := 20
abbrev fn_impl_ValidData : FuncId := 21
abbrev fn_laws_eqIntS : FuncId := 22
abbrev fn_spec_RanksOf : FuncId := 23
abbrev fn_impl_RanksOf : FuncId := 24
abbrev fn_laws_markIntS : FuncId := 25
abbrev fn_laws_heldIntS : FuncId := 26
abbrev fn_spec_TiesOf : FuncId := 27
abbrev fn_impl_TiesOf : FuncId := 28
abbrev fn_spec_MiddleOf : FuncId := 29
abbrev fn_impl_MiddleOf : FuncId := 30
abbrev fn_spec_AgreeOf : FuncId := 31
abbrev fn_impl_AgreeOf : FuncId := 32
abbrev fn_spec_RankGap : FuncId := 33
abbrev fn_impl_RankGap : FuncId := 34
abbrev fn_spec_FallCounts : FuncId := 35
abbrev fn_impl_FallCounts : FuncId := 36
abbrev fn_spec_AgreeChance : FuncId := 37
abbrev fn_impl_AgreeChance : FuncId := 38
abbrev fn_spec_SplitChance : FuncId := 39
abbrev fn_impl_SplitChance : FuncId := 40
abbrev fn_spec_WinsOf : FuncId := 41
abbrev fn_impl_WinsOf : FuncId := 42
abbrev fn_spec_WinCounts : FuncId := 43
abbrev fn_impl_WinCounts : FuncId := 44
abbrev fn_spec_newReader : FuncId := 45
abbrev fn_spec_reader_one : FuncId := 46
abbrev fn_impl_splits : FuncId := 47
abbrev fn_impl_places_has : FuncId := 48
abbrev fn_spec_inRange : FuncId := 49
abbrev fn_spec_choose : FuncId := 50
abbrev fn_spec_validData : FuncId := 51
abbrev fn_spec_ranks : FuncId := 52
abbrev fn_impl_twiceRanks : FuncId := 53
abbrev fn_impl_sortedCopy : FuncId := 54
abbrev fn_spec_middle : FuncId := 55
abbrev fn_impl_twiceMiddle : FuncId := 56
abbrev fn_spec_validTwo : FuncId := 57
abbrev fn_spec_kendall : FuncId := 58
abbrev fn_impl_validPair : FuncId := 59
abbrev fn_impl_AgreeOf_1 : FuncId := 60
abbrev fn_cmp_Compare_int : FuncId := 61
abbrev fn_impl_agreement : FuncId := 62
abbrev fn_spec_falls : FuncId := 63
abbrev fn_impl_withOneMore : FuncId := 64
abbrev fn_spec_validSamples : FuncId := 65
abbrev fn_spec_atLeast : FuncId := 66
abbrev fn_spec_sum : FuncId := 67
abbrev fn_impl_validSamples : FuncId := 68
abbrev fn_slices_Concat_ints : FuncId := 69
abbrev fn_impl_sumAt : FuncId := 70
abbrev fn_impl_firstPlaces : FuncId := 71
abbrev fn_spec_wins : FuncId := 72
abbrev fn_spec_winCounts : FuncId := 73
abbrev fn_impl_winsIn : FuncId := 74
abbrev fn_spec_reader_pick : FuncId := 75
abbrev fn_impl_splits_1 : FuncId := 76
abbrev fn_math_bits_OnesCount : FuncId := 77
abbrev fn_slices_Clone_ints : FuncId := 78
abbrev fn_slices_Sort_ints : FuncId := 79
abbrev fn_spec_sorted : FuncId := 80
abbrev fn_spec_sign : FuncId := 81
abbrev fn_cmp_isNaN_int : FuncId := 82
abbrev fn_slices_Grow_ints : FuncId := 83
abbrev fn_math_bits_OnesCount32 : FuncId := 84
abbrev fn_math_bits_OnesCount64 : FuncId := 85
abbrev fn_slices_pdqsortOrdered_int : FuncId := 86
abbrev fn_math_bits_Len : FuncId := 87
abbrev fn_slices_insertionSortOrdered_int : FuncId := 88
abbrev fn_slices_heapSortOrdered_int : FuncId := 89
abbrev fn_slices_breakPatternsOrdered_int : FuncId := 90
abbrev fn_slices_choosePivotOrdered_int : FuncId := 91
abbrev fn_slices_reverseRangeOrdered_int : FuncId := 92
abbrev fn_slices_partialInsertionSortOrdered_int : FuncId := 93
abbrev fn_cmp_Less_int : FuncId := 94
abbrev fn_slices_partitionEqualOrdered_int : FuncId := 95
abbrev fn_slices_partitionOrdered_int : FuncId := 96
abbrev fn_math_bits_Len32 : FuncId := 97
abbrev fn_math_bits_Len64 : FuncId := 98
abbrev fn_slices_siftDownOrdered_int : FuncId := 99
abbrev fn_slices_nextPowerOfTwo : FuncId := 100
abbrev fn_slices_xorshift_Next : FuncId := 101
abbrev fn_slices_medianAdjacentOrdered_int : FuncId := 102
abbrev fn_slices_medianOrdered_int : FuncId := 103
abbrev fn_slices_order2Ordered_int : FuncId := 104
abbrev fn_runtime_boundsError_Error : FuncId := 105
abbrev fn_runtime_boundsError_RuntimeError : FuncId := 106
abbrev fn_runtime_errorString_Error : FuncId := 107
abbrev fn_runtime_errorString_RuntimeError : FuncId := 108
abbrev fn_runtime_plainError_Error : FuncId := 109
abbrev fn_runtime_plainError_RuntimeError : FuncId := 110
abbrev fn_runtime_errorAddressString_Error : FuncId := 111
abbrev fn_runtime_errorAddressString_RuntimeError : FuncId := 112
abbrev fn_runtime_TypeAssertionError_Error : FuncId := 113
abbrev fn_runtime_TypeAssertionError_RuntimeError : FuncId := 114
abbrev fn_runtime_PanicNilError_Error : FuncId := 115
abbrev fn_runtime_PanicNilError_RuntimeError : FuncId := 116
abbrev fn_internal_abi_Type_Align : FuncId := 117
abbrev fn_internal_runtime_maps_unhashableTypeError_Error : FuncId := 118
abbrev fn_internal_runtime_maps_unhashableTypeError_RuntimeError : FuncId := 119
abbrev fn_internal_abi_Kind_String : FuncId := 120
theorem mixed : Try.prog.follows .mixedOrders = true := by kernel_rfl

def mc_laws_FnExactTiesOf : MC :=
  .seq (.reg [⟨some 2, none, .mv (.c (.bool false))⟩]) (.seq (.seq (.reg [⟨some 10, none, .mv (.t 0)⟩, ⟨some 11, none, .len (.t 10)⟩, ⟨some 12, none, .bin .gtr (.t 11) (.c (.int .i64 1048576))⟩]) (.cond (.t 12) (.seq (.reg [⟨some 2, none, .mv (.c (.bool true))⟩]) .ret) .skip)) (.seq (.reg [⟨some 13, none, .mv (.t 0)⟩, ⟨some 14, none, .call fn_laws_toIntS [.t 13]⟩, ⟨some 15, none, .call fn_spec_TiesOf [.t 14]⟩, ⟨some 3, none, .mv (.t 15)⟩]) (.seq (.reg [⟨some 16, none, .mv (.t 0)⟩, ⟨some 17, none, .call fn_laws_toIntS [.t 16]⟩, ⟨some 4, none, .mv (.t 17)⟩]) (.seq (.reg [⟨some 18, none, .mv (.t 4)⟩, ⟨some 19, none, .call fn_impl_TiesOf [.t 18]⟩, ⟨some 5, none, .mv (.t 19)⟩]) (.seq (.seq (.reg [⟨some 20, none, .mv (.t 5)⟩, ⟨some 21, none, .mv (.t 3)⟩, ⟨some 22, none, .call fn_laws_eqIntS [.t 20, .t 21]⟩, ⟨some 23, none, .un .not (.t 22)⟩]) (.cond (.t 23) (.seq (.reg [⟨some 2, none, .mv (.c (.bool false))⟩]) .ret) .skip)) (.seq (.seq (.reg [⟨some 24, none, .mv (.t 4)⟩, ⟨some 25, none, .mv (.t 0)⟩, ⟨some 26, none, .call fn_laws_toIntS [.t 25]⟩, ⟨some 27, none, .call fn_laws_eqIntS [.t 24, .t 26]⟩, ⟨some 28, none, .un .not (.t 27)⟩]) (.cond (.t 28) (.seq (.reg [⟨some 2, none, .mv (.c (.bool false))⟩]) .ret) .skip)) (.seq (.reg [⟨some 6, none, .mv (.c (.int .i64 1))⟩]) (.seq (.reg [⟨some 29, none, .mv (.t 4)⟩, ⟨some 30, none, .mv (.t 6)⟩, ⟨some 31, none, .call fn_laws_markIntS [.t 29, .t 30]⟩, ⟨some 6, none, .mv (.t 31)⟩]) (.seq (.seq (.reg [⟨some 32, none, .mv (.t 6)⟩, ⟨some 33, none, .bin .lss (.t 32) (.c (.int .i64 0))⟩, ⟨some 34, none, .mv (.t 33)⟩, ⟨some 35, some (34, false), .mv (.t 5)⟩, ⟨some 36, some (34, false), .mv (.t 3)⟩, ⟨some 37, some (34, false), .call fn_laws_eqIntS [.t 35, .t 36]⟩, ⟨some 38, some (34, false), .un .not (.t 37)⟩, ⟨some 39, none, .pick (.t 34) (.c (.bool true)) (.t 38)⟩]) (.cond (.t 39) (.seq (.reg [⟨some 2, none, .mv (.c (.bool false))⟩]) .ret) .skip)) (.seq (.reg [⟨some 7, none, .mv (.c (.int .i64 1))⟩]) (.seq (.reg [⟨some 40, none, .mv (.t 5)⟩, ⟨some 41, none, .mv (.t 7)⟩, ⟨some 42, none, .call fn_laws_markIntS [.t 40, .t 41]⟩, ⟨some 7, none, .mv (.t 42)⟩]) (.seq (.reg [⟨some 8, none, .mv (.c (.int .i64 1))⟩]) (.seq (.reg [⟨some 43, none, .mv (.t 5)⟩, ⟨some 44, none, .mv (.t 8)⟩, ⟨some 45, none, .call fn_laws_heldIntS [.t 43, .t 44]⟩, ⟨some 8, none, .mv (.t 45)⟩]) (.seq (.seq (.reg [⟨some 46, none, .mv (.t 8)⟩, ⟨some 47, none, .bin .lss (.t 46) (.c (.int .i64 0))⟩]) (.cond (.t 47) (.seq (.reg [⟨some 2, none, .mv (.c (.bool false))⟩]) .ret) .skip)) (.seq (.seq (.reg [⟨some 48, none, .mv (.t 8)⟩, ⟨some 49, none, .mv (.t 7)⟩, ⟨some 50, none, .bin .neq (.t 48) (.t 49)⟩]) (.cond (.t 50) (.seq (.reg [⟨some 2, none, .mv (.c (.bool false))⟩]) .ret) .skip)) (.seq (.reg [⟨some 51, none, .mv (.t 0)⟩, ⟨some 52, none, .call fn_laws_toIntS [.t 51]⟩, ⟨some 53, none, .call fn_impl_TiesOf [.t 52]⟩, ⟨some 9, none, .mv (.t 53)⟩]) (.seq (.seq (.reg [⟨some 54, none, .mv (.t 9)⟩, ⟨some 55, none, .mv (.t 3)⟩, ⟨some 56, none, .call fn_laws_eqIntS [.t 54, .t 55]⟩, ⟨some 57, none, .un .not (.t 56)⟩]) (.cond (.t 57) (.seq (.reg [⟨some 2, none, .mv (.c (.bool false))⟩]) .ret) .skip)) (.seq (.reg [⟨some 8, none, .mv (.c (.int .i64 1))⟩]) (.seq (.reg [⟨some 58, none, .mv (.t 5)⟩, ⟨some 59, none, .mv (.t 8)⟩, ⟨some 60, none, .call fn_laws_heldIntS [.t 58, .t 59]⟩, ⟨some 8, none, .mv (.t 60)⟩]) (.seq (.seq (.reg [⟨some 61, none, .mv (.t 8)⟩, ⟨some 62, none, .bin .lss (.t 61) (.c (.int .i64 0))⟩]) (.cond (.t 62) (.seq (.reg [⟨some 2, none, .mv (.c (.bool false))⟩]) .ret) .skip)) (.seq (.seq (.reg [⟨some 63, none, .mv (.t 8)⟩, ⟨some 64, none, .mv (.t 7)⟩, ⟨some 65, none, .bin .neq (.t 63) (.t 64)⟩]) (.cond (.t 65) (.seq (.reg [⟨some 2, none, .mv (.c (.bool false))⟩]) .ret) .skip)) (.seq (.reg [⟨some 2, none, .mv (.c (.bool true))⟩]) .ret))))))))))))))))))))))
theorem code_laws_FnExactTiesOf : HasCode Try.prog fn_laws_FnExactTiesOf mc_laws_FnExactTiesOf [.t 2] 66 := ⟨mixed, Try.f6, _, Try.func6, rfl, by kernel_rfl, by kernel_rfl, rfl, by kernel_rfl⟩

def mc_laws_toIntS : MC :=
  .seq (.reg [⟨some 2, none, .mv (.c .nilSlice)⟩]) (.seq (.reg [⟨some 5, none, .mv (.t 0)⟩, ⟨some 6, none, .len (.t 5)⟩, ⟨some 7, none, .mks (.t 6) (.t 6) [.int .i64 0] 1 8⟩, ⟨some 3, none, .mv (.t 7)⟩]) (.seq (.seq (.reg [⟨some 4, none, .mv (.c (.int .i64 0))⟩]) (.block 0 (.loop (.seq (.seq (.reg [⟨some 8, none, .mv (.t 4)⟩, ⟨some 9, none, .mv (.t 0)⟩, ⟨some 10, none, .len (.t 9)⟩, ⟨some 11, none, .bin .lss (.t 8) (.t 10)⟩]) (.cond (.t 11) .skip (.exit 0))) (.seq (.block 1 (.reg [⟨some 14, none, .mv (.t 3)⟩, ⟨some 15, none, .mv (.t 4)⟩, ⟨some 16, none, .mv (.t 0)⟩, ⟨some 17, none, .mv (.t 4)⟩, ⟨some 18, none, .ixa (.t 16) (.t 17) 1⟩, ⟨some 19, none, .ld (.t 18) 1 false⟩, ⟨some 20, none, .ixa (.t 14) (.t 15) 1⟩, ⟨none, none, .st (.t 20) (.t 19) 1⟩])) (.reg [⟨some 12, none, .mv (.t 4)⟩, ⟨some 13, none, .bin .add (.t 12) (.c (.int .i64 1))⟩, ⟨some 4, none, .mv (.t 13)⟩])))))) (.seq (.reg [⟨some 21, none, .mv (.t 3)⟩, ⟨some 2, none, .mv (.t 21)⟩]) .ret)))
theorem code_laws_toIntS : HasCode Try.prog fn_laws_toIntS mc_laws_toIntS [.t 2] 22 := ⟨mixed, Try.f20, _, Try.func20, rfl, by kernel_rfl, by kernel_rfl, rfl, by kernel_rfl⟩

def mc_impl_ValidData : MC :=
  .seq (.reg [⟨some 2, none, .mv (.c (.bool false))⟩]) (.seq (.seq (.reg [⟨some 5, none, .mv (.t 0)⟩, ⟨some 6, none, .len (.t 5)⟩, ⟨some 7, none, .bin .gtr (.t 6) (.c (.int .i64 10))⟩]) (.cond (.t 7) (.seq (.reg [⟨some 2, none, .mv (.c (.bool false))⟩]) .ret) .skip)) (.seq (.seq (.reg [⟨some 8, none, .mv (.t 0)⟩, ⟨some 9, none, .len (.t 8)⟩, ⟨some 10, none, .mv (.c (.int .i64 0))⟩]) (.block 0 (.loop (.seq (.reg [⟨some 11, none, .bin .lss (.t 10) (.t 9)⟩]) (.seq (.cond (.t 11) .skip (.exit 0)) (.seq (.block 1 (.seq (.reg [⟨some 12, none, .ixa (.t 8) (.t 10) 1⟩, ⟨some 13, none, .ld (.t 12) 1 false⟩, ⟨some 4, none, .mv (.t 13)⟩]) (.seq (.reg [⟨some 14, none, .mv (.t 4)⟩, ⟨some 15, none, .bin .lss (.t 14) (.c (.int .i64 (-200)))⟩, ⟨some 16, none, .mv (.t 15)⟩, ⟨some 17, some (16, false), .mv (.t 4)⟩, ⟨some 18, some (16, false), .bin .gtr (.t 17) (.c (.int .i64 200))⟩, ⟨some 19, none, .pick (.t 16) (.c (.bool true)) (.t 18)⟩]) (.cond (.t 19) (.seq (.reg [⟨some 2, none, .mv (.c (.bool false))⟩]) .ret) .skip)))) (.reg [⟨some 20, none, .bin .add (.t 10) (.c (.int .i64 1))⟩, ⟨some 10, none, .mv (.t 20)⟩]))))))) (.seq (.reg [⟨some 2, none, .mv (.c (.bool true))⟩]) .ret)))
theorem code_impl_ValidData : HasCode Try.prog fn_impl_ValidData mc_impl_ValidData [.t 2] 21 := ⟨mixed, Try.f21, _, Try.func21, rfl, by kernel_rfl, by kernel_rfl, rfl, by kernel_rfl⟩

def mc_laws_eqIntS : MC :=
  .seq (.reg [⟨some 4, none, .mv (.c (.bool false))⟩]) (.seq (.seq (.reg [⟨some 6, none, .mv (.t 0)⟩, ⟨some 7, none, .len (.t 6)⟩, ⟨some 8, none, .mv (.t 1)⟩, ⟨some 9, none, .len (.t 8)⟩, ⟨some 10, none, .bin .neq (.t 7) (.t 9)⟩]) (.cond (.t 10) (.seq (.reg [⟨some 4, none, .mv (.c (.bool false))⟩]) .ret) .skip)) (.seq (.seq (.reg [⟨some 5, none, .mv (.c (.int .i64 0))⟩]) (.block 0 (.loop (.seq (.seq (.reg [⟨some 11, none, .mv (.t 5)⟩, ⟨some 12, none, .mv (.t 0)⟩, ⟨some 13, none, .len (.t 12)⟩, ⟨some 14, none, .bin .lss (.t 11) (.t 13)⟩]) (.cond (.t 14) .skip (.exit 0))) (.seq (.block 1 (.seq (.drq [⟨some 17, none, .mv (.t 0)⟩, ⟨some 18, none, .mv (.t 5)⟩, ⟨some 19, none, .ixa (.t 17) (.t 18) 1⟩, ⟨some 20, none, .ld (.t 19) 1 false⟩, ⟨some 21, none, .mv (.t 1)⟩, ⟨some 22, none, .mv (.t 5)⟩, ⟨some 23, none, .ixa (.t 21) (.t 22) 1⟩, ⟨some 24, none, .ld (.t 23) 1 false⟩, ⟨some 25, none, .bin .neq (.t 20) (.t 24)⟩]) (.cond (.t 25) (.seq (.reg [⟨some 4, none, .mv (.c (.bool false))⟩]) .ret) .skip))) (.reg [⟨some 15, none, .mv (.t 5)⟩, ⟨some 16, none, .bin .add (.t 15) (.c (.int .i64 1))⟩, ⟨some 5, none, .mv (.t 16)⟩])))))) (.seq (.reg [⟨some 4, none, .mv (.c (.bool true))⟩]) .ret)))
theorem code_laws_eqIntS : HasCode Try.prog fn_laws_eqIntS mc_laws_eqIntS [.t 4] 26 := ⟨mixed, Try.f22, _, Try.func22, rfl, by kernel_rfl, by kernel_rfl, rfl, by kernel_rfl⟩

def mc_laws_markIntS : MC :=
  .seq (.reg [⟨some 4, none, .mv (.c (.int .i64 0))⟩]) (.seq (.seq (.reg [⟨some 5, none, .mv (.c (.int .i64 0))⟩]) (.block 0 (.loop (.seq (.seq (.reg [⟨some 6, none, .mv (.t 5)⟩, ⟨some 7, none, .mv (.t 0)⟩, ⟨some 8, none, .len (.t 7)⟩, ⟨some 9, none, .bin .lss (.t 6) (.t 8)⟩]) (.cond (.t 9) .skip (.exit 0))) (.seq (.block 1 (.seq (.reg [⟨some 12, none, .mv (.t 0)⟩, ⟨some 13, none, .mv (.t 5)⟩, ⟨some 14, none, .mv (.t 1)⟩, ⟨some 15, none, .ixa (.t 12) (.t 13) 1⟩, ⟨none, none, .st (.t 15) (.t 14) 1⟩]) (.reg [⟨some 16, none, .mv (.t 1)⟩, ⟨some 17, none, .bin .add (.t 16) (.c (.int .i64 1))⟩, ⟨some 1, none, .mv (.t 17)⟩]))) (.reg [⟨some 10, none, .mv (.t 5)⟩, ⟨some 11, none, .bin .add (.t 10) (.c (.int .i64 1))⟩, ⟨some 5, none, .mv (.t 11)⟩])))))) (.seq (.reg [⟨some 18, none, .mv (.t 1)⟩, ⟨some 4, none, .mv (.t 18)⟩]) .ret))
theorem code_laws_markIntS : HasCode Try.prog fn_laws_markIntS mc_laws_markIntS [.t 4] 19 := ⟨mixed, Try.f25, _, Try.func25, rfl, by kernel_rfl, by kernel_rfl, rfl, by kernel_rfl⟩

def mc_laws_heldIntS : MC :=
  .seq (.reg [⟨some 4, none, .mv (.c (.int .i64 0))⟩]) (.seq (.seq (.reg [⟨some 5, none, .mv (.c (.int .i64 0))⟩]) (.block 0 (.loop (.seq (.seq (.reg [⟨some 6, none, .mv (.t 5)⟩, ⟨some 7, none, .mv (.t 0)⟩, ⟨some 8, none, .len (.t 7)⟩, ⟨some 9, none, .bin .lss (.t 6) (.t 8)⟩]) (.cond (.t 9) .skip (.exit 0))) (.seq (.block 1 (.seq (.seq (.reg [⟨some 12, none, .mv (.t 0)⟩, ⟨some 13, none, .mv (.t 5)⟩, ⟨some 14, none, .ixa (.t 12) (.t 13) 1⟩, ⟨some 15, none, .ld (.t 14) 1 false⟩, ⟨some 16, none, .mv (.t 1)⟩, ⟨some 17, none, .bin .neq (.t 15) (.t 16)⟩]) (.cond (.t 17) (.seq (.reg [⟨some 4, none, .mv (.c (.int .i64 (-1)))⟩]) .ret) .skip)) (.reg [⟨some 18, none, .mv (.t 1)⟩, ⟨some 19, none, .bin .add (.t 18) (.c (.int .i64 1))⟩, ⟨some 1, none, .mv (.t 19)⟩]))) (.reg [⟨some 10, none, .mv (.t 5)⟩, ⟨some 11, none, .bin .add (.t 10) (.c (.int .i64 1))⟩, ⟨some 5, none, .mv (.t 11)⟩])))))) (.seq (.reg [⟨some 20, none, .mv (.t 1)⟩, ⟨some 4, none, .mv (.t 20)⟩]) .ret))
theorem code_laws_heldIntS : HasCode Try.prog fn_laws_heldIntS mc_laws_heldIntS [.t 4] 21 := ⟨mixed, Try.f26, _, Try.func26, rfl, by kernel_rfl, by kernel_rfl, rfl, by kernel_rfl⟩

def mc_spec_TiesOf : MC :=
  .seq (.reg [⟨some 2, none, .mv (.c .nilSlice)⟩]) (.seq (.seq (.reg [⟨some 7, none, .mv (.t 0)⟩, ⟨some 8, none, .call fn_spec_validData [.t 7]⟩, ⟨some 9, none, .un .not (.t 8)⟩]) (.cond (.t 9) (.seq (.reg [⟨some 2, none, .mv (.c .nilSlice)⟩]) .ret) .skip)) (.seq (.reg [⟨some 10, none, .bsl 0 1 [.int .i64 0] []⟩, ⟨some 3, none, .mv (.t 10)⟩]) (.seq (.seq (.reg [⟨some 4, none, .mv (.c (.int .i64 (-200)))⟩]) (.block 0 (.loop (.seq (.seq (.reg [⟨some 11, none, .mv (.t 4)⟩, ⟨some 12, none, .bin .leq (.t 11) (.c (.int .i64 200))⟩]) (.cond (.t 12) .skip (.exit 0))) (.seq (.block 1 (.seq (.reg [⟨some 5, none, .mv (.c (.int .i64 0))⟩]) (.seq (.seq (.reg [⟨some 6, none, .mv (.c (.int .i64 0))⟩]) (.block 2 (.loop (.seq (.seq (.reg [⟨some 15, none, .mv (.t 6)⟩, ⟨some 16, none, .mv (.t 0)⟩, ⟨some 17, none, .len (.t 16)⟩, ⟨some 18, none, .bin .lss (.t 15) (.t 17)⟩]) (.cond (.t 18) .skip (.exit 2))) (.seq (.block 3 (.seq (.reg [⟨some 21, none, .mv (.t 0)⟩, ⟨some 22, none, .mv (.t 6)⟩, ⟨some 23, none, .ixa (.t 21) (.t 22) 1⟩, ⟨some 24, none, .ld (.t 23) 1 false⟩, ⟨some 25, none, .mv (.t 4)⟩, ⟨some 26, none, .bin .eql (.t 24) (.t 25)⟩]) (.cond (.t 26) (.reg [⟨some 27, none, .mv (.t 5)⟩, ⟨some 28, none, .bin .add (.t 27) (.c (.int .i64 1))⟩, ⟨some 5, none, .mv (.t 28)⟩]) .skip))) (.reg [⟨some 19, none, .mv (.t 6)⟩, ⟨some 20, none, .bin .add (.t 19) (.c (.int .i64 1))⟩, ⟨some 6, none, .mv (.t 20)⟩])))))) (.seq (.reg [⟨some 29, none, .mv (.t 5)⟩, ⟨some 30, none, .bin .gtr (.t 29) (.c (.int .i64 1))⟩]) (.cond (.t 30) (.reg [⟨some 31, none, .mv (.t 3)⟩, ⟨some 32, none, .mv (.t 5)⟩, ⟨some 33, none, .bsl 1 1 [.int .i64 0] [(0, .t 32)]⟩, ⟨some 34, none, .app (.t 31) (.t 33) 1 8⟩, ⟨some 3, none, .mv (.t 34)⟩]) .skip))))) (.reg [⟨some 13, none, .mv (.t 4)⟩, ⟨some 14, none, .bin .add (.t 13) (.c (.int .i64 1))⟩, ⟨some 4, none, .mv (.t 14)⟩])))))) (.seq (.reg [⟨some 35, none, .mv (.t 3)⟩, ⟨some 2, none, .mv (.t 35)⟩]) .ret))))
theorem code_spec_TiesOf : HasCode Try.prog fn_spec_TiesOf mc_spec_TiesOf [.t 2] 36 := ⟨mixed, Try.f27, _, Try.func27, rfl, by kernel_rfl, by kernel_rfl, rfl, by kernel_rfl⟩

def mc_impl_TiesOf : MC :=
  .seq (.reg [⟨some 2, none, .mv (.c .nilSlice)⟩]) (.seq (.seq (.reg [⟨some 7, none, .mv (.t 0)⟩, ⟨some 8, none, .call fn_impl_ValidData [.t 7]⟩, ⟨some 9, none, .un .not (.t 8)⟩]) (.cond (.t 9) (.seq (.reg [⟨some 2, none, .mv (.c .nilSlice)⟩]) .ret) .skip)) (.seq (.reg [⟨some 10, none, .mv (.t 0)⟩, ⟨some 11, none, .call fn_impl_sortedCopy [.t 10]⟩, ⟨some 3, none, .mv (.t 11)⟩]) (.seq (.reg [⟨some 4, none, .mv (.c .nilSlice)⟩]) (.seq (.seq (.reg [⟨some 5, none, .mv (.c (.int .i64 0))⟩]) (.block 0 (.loop (.seq (.seq (.reg [⟨some 12, none, .mv (.t 5)⟩, ⟨some 13, none, .mv (.t 3)⟩, ⟨some 14, none, .len (.t 13)⟩, ⟨some 15, none, .bin .lss (.t 12) (.t 14)⟩]) (.cond (.t 15) .skip (.exit 0))) (.block 1 (.seq (.reg [⟨some 16, none, .mv (.t 5)⟩, ⟨some 17, none, .bin .add (.t 16) (.c (.int .i64 1))⟩, ⟨some 6, none, .mv (.t 17)⟩]) (.seq (.block 2 (.loop (.seq (.seq (.drq [⟨some 18, none, .mv (.t 6)⟩, ⟨some 19, none, .mv (.t 3)⟩, ⟨some 20, none, .len (.t 19)⟩, ⟨some 21, none, .bin .lss (.t 18) (.t 20)⟩, ⟨some 22, none, .mv (.t 21)⟩, ⟨some 23, some (22, true), .mv (.t 3)⟩, ⟨some 24, some (22, true), .mv (.t 6)⟩, ⟨some 25, some (22, true), .ixa (.t 23) (.t 24) 1⟩, ⟨some 26, some (22, true), .ld (.t 25) 1 false⟩, ⟨some 27, some (22, true), .mv (.t 3)⟩, ⟨some 28, some (22, true), .mv (.t 5)⟩, ⟨some 29, some (22, true), .ixa (.t 27) (.t 28) 1⟩, ⟨some 30, some (22, true), .ld (.t 29) 1 false⟩, ⟨some 31, some (22, true), .bin .eql (.t 26) (.t 30)⟩, ⟨some 32, none, .pick (.t 22) (.t 31) (.c (.bool false))⟩]) (.cond (.t 32) .skip (.exit 2))) (.block 3 (.reg [⟨some 33, none, .mv (.t 6)⟩, ⟨some 34, none, .bin .add (.t 33) (.c (.int .i64 1))⟩, ⟨some 6, none, .mv (.t 34)⟩]))))) (.seq (.seq (.reg [⟨some 35, none, .mv (.t 6)⟩, ⟨some 36, none, .mv (.t 5)⟩, ⟨some 37, none, .bin .sub (.t 35) (.t 36)⟩, ⟨some 38, none, .bin .gtr (.t 37) (.c (.int .i64 1))⟩]) (.cond (.t 38) (.reg [⟨some 39, none, .mv (.t 4)⟩, ⟨some 40, none, .mv (.t 6)⟩, ⟨some 41, none, .mv (.t 5)⟩, ⟨some 42, none, .bin .sub (.t 40) (.t 41)⟩, ⟨some 43, none, .bsl 1 1 [.int .i64 0] [(0, .t 42)]⟩, ⟨some 44, none, .app (.t 39) (.t 43) 1 8⟩, ⟨some 4, none, .mv (.t 44)⟩]) .skip)) (.reg [⟨some 45, none, .mv (.t 6)⟩, ⟨some 5, none, .mv (.t 45)⟩]))))))))) (.seq (.reg [⟨some 46, none, .mv (.t 4)⟩, ⟨some 2, none, .mv (.t 46)⟩]) .ret)))))
theorem code_impl_TiesOf : HasCode Try.prog fn_impl_TiesOf mc_impl_TiesOf [.t 2] 47 := ⟨mixed, Try.f28, _, Try.func28, rfl, by kernel_rfl, by kernel_rfl, rfl, by kernel_rfl⟩

def mc_spec_inRange : MC :=
  .seq (.reg [⟨some 6, none, .mv (.c (.bool false))⟩]) (.seq (.reg [⟨some 7, none, .mv (.t 1)⟩, ⟨some 8, none, .mv (.t 0)⟩, ⟨some 9, none, .bin .leq (.t 7) (.t 8)⟩, ⟨some 10, none, .mv (.t 9)⟩, ⟨some 11, some (10, true), .mv (.t 0)⟩, ⟨some 12, some (10, true), .mv (.t 2)⟩, ⟨some 13, some (10, true), .bin .leq (.t 11) (.t 12)⟩, ⟨some 14, none, .pick (.t 10) (.t 13) (.c (.bool false))⟩, ⟨some 6, none, .mv (.t 14)⟩]) .ret)
theorem code_spec_inRange : HasCode Try.prog fn_spec_inRange mc_spec_inRange [.t 6] 15 := ⟨mixed, Try.f49, _, Try.func49, rfl, by kernel_rfl, by kernel_rfl, rfl, by kernel_rfl⟩

def mc_spec_validData : MC :=
  .seq (.reg [⟨some 2, none, .mv (.c (.bool false))⟩]) (.seq (.seq (.reg [⟨some 3, none, .mv (.c (.int .i64 0))⟩]) (.block 0 (.loop (.seq (.seq (.reg [⟨some 4, none, .mv (.t 3)⟩, ⟨some 5, none, .mv (.t 0)⟩, ⟨some 6, none, .len (.t 5)⟩, ⟨some 7, none, .bin .lss (.t 4) (.t 6)⟩]) (.cond (.t 7) .skip (.exit 0))) (.seq (.block 1 (.seq (.reg [⟨some 10, none, .mv (.t 0)⟩, ⟨some 11, none, .mv (.t 3)⟩, ⟨some 12, none, .ixa (.t 10) (.t 11) 1⟩, ⟨some 13, none, .ld (.t 12) 1 false⟩, ⟨some 14, none, .call fn_spec_inRange [.t 13, .c (.int .i64 (-200)), .c (.int .i64 200)]⟩, ⟨some 15, none, .un .not (.t 14)⟩]) (.cond (.t 15) (.seq (.reg [⟨some 2, none, .mv (.c (.bool false))⟩]) .ret) .skip))) (.reg [⟨some 8, none, .mv (.t 3)⟩, ⟨some 9, none, .bin .add (.t 8) (.c (.int .i64 1))⟩, ⟨some 3, none, .mv (.t 9)⟩])))))) (.seq (.reg [⟨some 16, none, .mv (.t 0)⟩, ⟨some 17, none, .len (.t 16)⟩, ⟨some 18, none, .bin .leq (.t 17) (.c (.int .i64 10))⟩, ⟨some 2, none, .mv (.t 18)⟩]) .ret))
theorem code_spec_validData : HasCode Try.prog fn_spec_validData mc_spec_validData [.t 2] 19 := ⟨mixed, Try.f51, _, Try.func51, rfl, by kernel_rfl, by kernel_rfl, rfl, by kernel_rfl⟩

def mc_impl_sortedCopy : MC :=
  .seq (.reg [⟨some 2, none, .mv (.c .nilSlice)⟩]) (.seq (.reg [⟨some 4, none, .mv (.t 0)⟩, ⟨some 5, none, .call fn_slices_Clone_ints [.t 4]⟩, ⟨some 3, none, .mv (.t 5)⟩]) (.seq (.reg [⟨some 6, none, .mv (.t 3)⟩, ⟨some 7, none, .call fn_slices_Sort_ints [.t 6]⟩]) (.seq (.reg [⟨some 8, none, .mv (.t 3)⟩, ⟨some 2, none, .mv (.t 8)⟩]) .ret)))
theorem code_impl_sortedCopy : HasCode Try.prog fn_impl_sortedCopy mc_impl_sortedCopy [.t 2] 9 := ⟨mixed, Try.f54, _, Try.func54, rfl, by kernel_rfl, by kernel_rfl, rfl, by kernel_rfl⟩

def mc_slices_Clone_ints : MC :=
  .seq (.reg [⟨some 2, none, .mv (.c .nilSlice)⟩]) (.seq (.seq (.reg [⟨some 3, none, .mv (.t 0)⟩, ⟨some 4, none, .nileq false (.t 3) (.c .nilSlice)⟩]) (.cond (.t 4) (.seq (.reg [⟨some 2, none, .mv (.c .nilSlice)⟩]) .ret) .skip)) (.seq (.reg [⟨some 5, none, .bsl 0 1 [.int .i64 0] []⟩, ⟨some 6, none, .mv (.t 0)⟩, ⟨some 7, none, .app (.t 5) (.t 6) 1 8⟩, ⟨some 2, none, .mv (.t 7)⟩]) .ret))
theorem code_slices_Clone_ints : HasCode Try.prog fn_slices_Clone_ints mc_slices_Clone_ints [.t 2] 8 := ⟨mixed, Try.f78, _, Try.func78, rfl, by kernel_rfl, by kernel_rfl, rfl, by kernel_rfl⟩

def mc_slices_Sort_ints : MC :=
  .seq (.reg [⟨some 3, none, .mv (.t 0)⟩, ⟨some 4, none, .len (.t 3)⟩, ⟨some 2, none, .mv (.t 4)⟩]) (.reg [⟨some 5, none, .mv (.t 0)⟩, ⟨some 6, none, .mv (.t 2)⟩, ⟨some 7, none, .mv (.t 2)⟩, ⟨some 8, none, .conv .u64 (.t 7)⟩, ⟨some 9, none, .call fn_math_bits_Len [.t 8]⟩, ⟨some 10, none, .call fn_slices_pdqsortOrdered_int [.t 5, .c (.int .i64 0), .t 6, .t 9]⟩])
theorem code_slices_Sort_ints : HasCode Try.prog fn_slices_Sort_ints mc_slices_Sort_ints [] 11 := ⟨mixed, Try.f79, _, Try.func79, rfl, by kernel_rfl, by kernel_rfl, rfl, by kernel_rfl⟩

def mc_cmp_isNaN_int : MC :=
  .seq (.reg [⟨some 2, none, .mv (.c (.bool false))⟩]) (.seq (.reg [⟨some 3, none, .mv (.t 0)⟩, ⟨some 4, none, .mv (.t 0)⟩, ⟨some 5, none, .bin .neq (.t 3) (.t 4)⟩, ⟨some 2, none, .mv (.t 5)⟩]) .ret)
theorem code_cmp_isNaN_int : HasCode Try.prog fn_cmp_isNaN_int mc_cmp_isNaN_int [.t 2] 6 := ⟨mixed, Try.f82, _, Try.func82, rfl, by kernel_rfl, by kernel_rfl, rfl, by kernel_rfl⟩

def mc_slices_pdqsortOrdered_int : MC :=
  .seq (.reg [⟨some 8, none, .mv (.c (.bool true))⟩]) (.seq (.reg [⟨some 9, none, .mv (.c (.bool true))⟩]) (.block 0 (.loop (.block 1 (.seq (.reg [⟨some 19, none, .mv (.t 2)⟩, ⟨some 20, none, .mv (.t 1)⟩, ⟨some 21, none, .bin .sub (.t 19) (.t 20)⟩, ⟨some 10, none, .mv (.t 21)⟩]) (.seq (.seq (.reg [⟨some 22, none, .mv (.t 10)⟩, ⟨some 23, none, .bin .leq (.t 22) (.c (.int .i64 12))⟩]) (.cond (.t 23) (.seq (.reg [⟨some 24, none, .mv (.t 0)⟩, ⟨some 25, none, .mv (.t 1)⟩, ⟨some 26, none, .mv (.t 2)⟩, ⟨some 27, none, .call fn_slices_insertionSortOrdered_int [.t 24, .t 25, .t 26]⟩]) .ret) .skip)) (.seq (.seq (.reg [⟨some 28, none, .mv (.t 3)⟩, ⟨some 29, none, .bin .eql (.t 28) (.c (.int .i64 0))⟩]) (.cond (.t 29) (.seq (.reg [⟨some 30, none, .mv (.t 0)⟩, ⟨some 31, none, .mv (.t 1)⟩, ⟨some 32, none, .mv (.t 2)⟩, ⟨some 33, none, .call fn_slices_heapSortOrdered_int [.t 30, .t 31, .t 32]⟩]) .ret) .skip)) (.seq (.seq (.reg [⟨some 34, none, .mv (.t 8)⟩, ⟨some 35, none, .un .not (.t 34)⟩]) (.cond (.t 35) (.seq (.reg [⟨some 36, none, .mv (.t 0)⟩, ⟨some 37, none, .mv (.t 1)⟩, ⟨some 38, none, .mv (.t 2)⟩, ⟨some 39, none, .call fn_slices_breakPatternsOrdered_int [.t 36, .t 37, .t 38]⟩]) (.reg [⟨some 40, none, .mv (.t 3)⟩, ⟨some 41, none, .bin .sub (.t 40) (.c (.int .i64 1))⟩, ⟨some 3, none, .mv (.t 41)⟩])) .skip)) (.seq (.reg [⟨some 43, none, .mv (.t 0)⟩, ⟨some 44, none, .mv (.t 1)⟩, ⟨some 45, none, .mv (.t 2)⟩, ⟨some 46, none, .call fn_slices_choosePivotOrdered_int [.t 43, .t 44, .t 45]⟩, ⟨some 42, none, .mv (.t 46)⟩, ⟨some 47, none, .ext (.t 42) 0⟩, ⟨some 48, none, .ext (.t 42) 1⟩, ⟨some 11, none, .mv (.t 47)⟩, ⟨some 12, none, .mv (.t 48)⟩]) (.seq (.seq (.reg [⟨some 49, none, .mv (.t 12)⟩, ⟨some 50, none, .bin .eql (.t 49) (.c (.int .i64 2))⟩]) (.cond (.t 50) (.seq (.reg [⟨some 51, none, .mv (.t 0)⟩, ⟨some 52, none, .mv (.t 1)⟩, ⟨some 53, none, .mv (.t 2)⟩, ⟨some 54, none, .call fn_slices_reverseRangeOrdered_int [.t 51, .t 52, .t 53]⟩]) (.seq (.reg [⟨some 55, none, .mv (.t 2)⟩, ⟨some 56, none, .bin .sub (.t 55) (.c (.int .i64 1))⟩, ⟨some 57, none, .mv (.t 11)⟩, ⟨some 58, none, .mv (.t 1)⟩, ⟨some 59, none, .bin .sub (.t 57) (.t 58)⟩, ⟨some 60, none, .bin .sub (.t 56) (.t 59)⟩, ⟨some 11, none, .mv (.t 60)⟩]) (.reg [⟨some 12, none, .mv (.c (.int .i64 1))⟩]))) .skip)) (.seq (.seq (.reg [⟨some 61, none, .mv (.t 8)⟩, ⟨some 62, none, .mv (.t 61)⟩, ⟨some 63, some (62, true), .mv (.t 9)⟩, ⟨some 64, none, .pick (.t 62) (.t 63) (.c (.bool false))⟩, ⟨some 65, none, .mv (.t 64)⟩, ⟨some 66, some (65, true), .mv (.t 12)⟩, ⟨some 67, some (65, true), .bin .eql (.t 66) (.c (.int .i64 1))⟩, ⟨some 68, none, .pick (.t 65) (.t 67) (.c (.bool false))⟩]) (.cond (.t 68) (.seq (.reg [⟨some 69, none, .mv (.t 0)⟩, ⟨some 70, none, .mv (.t 1)⟩, ⟨some 71, none, .mv (.t 2)⟩, ⟨some 72, none, .call fn_slices_partialInsertionSortOrdered_int [.t 69, .t 70, .t 71]⟩]) (.cond (.t 72) .ret .skip)) .skip)) (.seq (.seq (.drq [⟨some 73, none, .mv (.t 1)⟩, ⟨some 74, none, .bin .gtr (.t 73) (.c (.int .i64 0))⟩, ⟨some 75, none, .mv (.t 74)⟩, ⟨some 76, some (75, true), .mv (.t 0)⟩, ⟨some 77, some (75, true), .mv (.t 1)⟩, ⟨some 78, some (75, true), .bin .sub (.t 77) (.c (.int .i64 1))⟩, ⟨some 79, some (75, true), .ixa (.t 76) (.t 78) 1⟩, ⟨some 80, some (75, true), .ld (.t 79) 1 false⟩, ⟨some 81, some (75, true), .mv (.t 0)⟩, ⟨some 82, some (75, true), .mv (.t 11)⟩, ⟨some 83, some (75, true), .ixa (.t 81) (.t 82) 1⟩, ⟨some 84, some (75, true), .ld (.t 83) 1 false⟩, ⟨some 85, some (75, true), .call fn_cmp_Less_int [.t 80, .t 84]⟩, ⟨some 86, some (75, true), .un .not (.t 85)⟩, ⟨some 87, none, .pick (.t 75) (.t 86) (.c (.bool false))⟩]) (.cond (.t 87) (.seq (.reg [⟨some 88, none, .mv (.t 0)⟩, ⟨some 89, none, .mv (.t 1)⟩, ⟨some 90, none, .mv (.t 2)⟩, ⟨some 91, none, .mv (.t 11)⟩, ⟨some 92, none, .call fn_slices_partitionEqualOrdered_int [.t 88, .t 89, .t 90, .t 91]⟩, ⟨some 13, none, .mv (.t 92)⟩]) (.seq (.reg [⟨some 93, none, .mv (.t 13)⟩, ⟨some 1, none, .mv (.t 93)⟩]) (.exit 1))) .skip)) (.seq (.reg [⟨some 95, none, .mv (.t 0)⟩, ⟨some 96, none, .mv (.t 1)⟩, ⟨some 97, none, .mv (.t 2)⟩, ⟨some 98, none, .mv (.t 11)⟩, ⟨some 99, none, .call fn_slices_partitionOrdered_int [.t 95, .t 96, .t 97, .t 98]⟩, ⟨some 94, none, .mv (.t 99)⟩, ⟨some 100, none, .ext (.t 94) 0⟩, ⟨some 101, none, .ext (.t 94) 1⟩, ⟨some 14, none, .mv (.t 100)⟩, ⟨some 15, none, .mv (.t 101)⟩]) (.seq (.reg [⟨some 102, none, .mv (.t 15)⟩, ⟨some 9, none, .mv (.t 102)⟩]) (.seq (.reg [⟨some 103, none, .mv (.t 14)⟩, ⟨some 104, none, .mv (.t 1)⟩, ⟨some 105, none, .bin .sub (.t 103) (.t 104)⟩, ⟨some 106, none, .mv (.t 2)⟩, ⟨some 107, none, .mv (.t 14)⟩, ⟨some 108, none, .bin .sub (.t 106) (.t 107)⟩, ⟨some 16, none, .mv (.t 105)⟩, ⟨some 17, none, .mv (.t 108)⟩]) (.seq (.reg [⟨some 109, none, .mv (.t 10)⟩, ⟨some 110, none, .bin .quo (.t 109) (.c (.int .i64 8))⟩, ⟨some 18, none, .mv (.t 110)⟩]) (.seq (.reg [⟨some 111, none, .mv (.t 16)⟩, ⟨some 112, none, .mv (.t 17)⟩, ⟨some 113, none, .bin .lss (.t 111) (.t 112)⟩]) (.cond (.t 113) (.seq (.reg [⟨some 114, none, .mv (.t 16)⟩, ⟨some 115, none, .mv (.t 18)⟩, ⟨some 116, none, .bin .geq (.t 114) (.t 115)⟩, ⟨some 8, none, .mv (.t 116)⟩]) (.seq (.reg [⟨some 117, none, .mv (.t 0)⟩, ⟨some 118, none, .mv (.t 1)⟩, ⟨some 119, none, .mv (.t 14)⟩, ⟨some 120, none, .mv (.t 3)⟩, ⟨some 121, none, .call fn_slices_pdqsortOrdered_int [.t 117, .t 118, .t 119, .t 120]⟩]) (.reg [⟨some 122, none, .mv (.t 14)⟩, ⟨some 123, none, .bin .add (.t 122) (.c (.int .i64 1))⟩, ⟨some 1, none, .mv (.t 123)⟩]))) (.seq (.reg [⟨some 124, none, .mv (.t 17)⟩, ⟨some 125, none, .mv (.t 18)⟩, ⟨some 126, none, .bin .geq (.t 124) (.t 125)⟩, ⟨some 8, none, .mv (.t 126)⟩]) (.seq (.reg [⟨some 127, none, .mv (.t 0)⟩, ⟨some 128, none, .mv (.t 14)⟩, ⟨some 129, none, .bin .add (.t 128) (.c (.int .i64 1))⟩, ⟨some 130, none, .mv (.t 2)⟩, ⟨some 131, none, .mv (.t 3)⟩, ⟨some 132, none, .call fn_slices_pdqsortOrdered_int [.t 127, .t 129, .t 130, .t 131]⟩]) (.reg [⟨some 133, none, .mv (.t 14)⟩, ⟨some 2, none, .mv (.t 133)⟩])))))))))))))))))))))
theorem code_slices_pdqsortOrdered_int : HasCode Try.prog fn_slices_pdqsortOrdered_int mc_slices_pdqsortOrdered_int [] 134 := ⟨mixed, Try.f86, _, Try.func86, rfl, by kernel_rfl, by kernel_rfl, rfl, by kernel_rfl⟩

def mc_math_bits_Len : MC :=
  .seq (.reg [⟨some 2, none, .mv (.c (.int .i64 0))⟩]) (.seq (.cond (.c (.bool false)) (.seq (.reg [⟨some 3, none, .mv (.t 0)⟩, ⟨some 4, none, .conv .u32 (.t 3)⟩, ⟨some 5, none, .call fn_math_bits_Len32 [.t 4]⟩, ⟨some 2, none, .mv (.t 5)⟩]) .ret) .skip) (.seq (.reg [⟨some 6, none, .mv (.t 0)⟩, ⟨some 7, none, .call fn_math_bits_Len64 [.t 6]⟩, ⟨some 2, none, .mv (.t 7)⟩]) .ret))
theorem code_math_bits_Len : HasCode Try.prog fn_math_bits_Len mc_math_bits_Len [.t 2] 8 := ⟨mixed, Try.f87, _, Try.func87, rfl, by kernel_rfl, by kernel_rfl, rfl, by kernel_rfl⟩

def mc_slices_insertionSortOrdered_int : MC :=
  .seq (.reg [⟨some 8, none, .mv (.t 1)⟩, ⟨some 9, none, .bin .add (.t 8) (.c (.int .i64 1))⟩, ⟨some 6, none, .mv (.t 9)⟩]) (.block 0 (.loop (.seq (.seq (.reg [⟨some 10, none, .mv (.t 6)⟩, ⟨some 11, none, .mv (.t 2)⟩, ⟨some 12, none, .bin .lss (.t 10) (.t 11)⟩]) (.cond (.t 12) .skip (.exit 0))) (.seq (.block 1 (.seq (.reg [⟨some 15, none, .mv (.t 6)⟩, ⟨some 7, none, .mv (.t 15)⟩]) (.block 2 (.loop (.seq (.seq (.drq [⟨some 16, none, .mv (.t 7)⟩, ⟨some 17, none, .mv (.t 1)⟩, ⟨some 18, none, .bin .gtr (.t 16) (.t 17)⟩, ⟨some 19, none, .mv (.t 18)⟩, ⟨some 20, some (19, true), .mv (.t 0)⟩, ⟨some 21, some (19, true), .mv (.t 7)⟩, ⟨some 22, some (19, true), .ixa (.t 20) (.t 21) 1⟩, ⟨some 23, some (19, true), .ld (.t 22) 1 false⟩, ⟨some 24, some (19, true), .mv (.t 0)⟩, ⟨some 25, some (19, true), .mv (.t 7)⟩, ⟨some 26, some (19, true), .bin .sub (.t 25) (.c (.int .i64 1))⟩, ⟨some 27, some (19, true), .ixa (.t 24) (.t 26) 1⟩, ⟨some 28, some (19, true), .ld (.t 27) 1 false⟩, ⟨some 29, some (19, true), .call fn_cmp_Less_int [.t 23, .t 28]⟩, ⟨some 30, none, .pick (.t 19) (.t 29) (.c (.bool false))⟩]) (.cond (.t 30) .skip (.exit 2))) (.seq (.block 3 (.drw [⟨some 33, none, .mv (.t 0)⟩, ⟨some 34, none, .mv (.t 7)⟩, ⟨some 35, none, .mv (.t 0)⟩, ⟨some 36, none, .mv (.t 7)⟩, ⟨some 37, none, .bin .sub (.t 36) (.c (.int .i64 1))⟩, ⟨some 38, none, .mv (.t 0)⟩, ⟨some 39, none, .mv (.t 7)⟩, ⟨some 40, none, .bin .sub (.t 39) (.c (.int .i64 1))⟩, ⟨some 41, none, .ixa (.t 38) (.t 40) 1⟩, ⟨some 42, none, .ld (.t 41) 1 false⟩, ⟨some 43, none, .mv (.t 0)⟩, ⟨some 44, none, .mv (.t 7)⟩, ⟨some 45, none, .ixa (.t 43) (.t 44) 1⟩, ⟨some 46, none, .ld (.t 45) 1 false⟩, ⟨some 47, none, .ixa (.t 33) (.t 34) 1⟩, ⟨none, none, .st (.t 47) (.t 42) 1⟩, ⟨some 48, none, .ixa (.t 35) (.t 37) 1⟩, ⟨none, none, .st (.t 48) (.t 46) 1⟩] [])) (.reg [⟨some 31, none, .mv (.t 7)⟩, ⟨some 32, none, .bin .sub (.t 31) (.c (.int .i64 1))⟩, ⟨some 7, none, .mv (.t 32)⟩]))))))) (.reg [⟨some 13, none, .mv (.t 6)⟩, ⟨some 14, none, .bin .add (.t 13) (.c (.int .i64 1))⟩, ⟨some 6, none, .mv (.t 14)⟩])))))
theorem code_slices_insertionSortOrdered_int : HasCode Try.prog fn_slices_insertionSortOrdered_int mc_slices_insertionSortOrdered_int [] 49 := ⟨mixed, Try.f88, _, Try.func88, rfl, by kernel_rfl, by kernel_rfl, rfl, by kernel_rfl⟩

def mc_cmp_Less_int : MC :=
  .seq (.reg [⟨some 4, none, .mv (.c (.bool false))⟩]) (.seq (.reg [⟨some 5, none, .mv (.t 0)⟩, ⟨some 6, none, .call fn_cmp_isNaN_int [.t 5]⟩, ⟨some 7, none, .mv (.t 6)⟩, ⟨some 8, some (7, true), .mv (.t 1)⟩, ⟨some 9, some (7, true), .call fn_cmp_isNaN_int [.t 8]⟩, ⟨some 10, some (7, true), .un .not (.t 9)⟩, ⟨some 11, none, .pick (.t 7) (.t 10) (.c (.bool false))⟩, ⟨some 12, none, .mv (.t 11)⟩, ⟨some 13, some (12, false), .mv (.t 0)⟩, ⟨some 14, some (12, false), .mv (.t 1)⟩, ⟨some 15, some (12, false), .bin .lss (.t 13) (.t 14)⟩, ⟨some 16, none, .pick (.t 12) (.c (.bool true)) (.t 15)⟩, ⟨some 4, none, .mv (.t 16)⟩]) .ret)
theorem code_cmp_Less_int : HasCode Try.prog fn_cmp_Less_int mc_cmp_Less_int [.t 4] 17 := ⟨mixed, Try.f94, _, Try.func94, rfl, by kernel_rfl, by kernel_rfl, rfl, by kernel_rfl⟩

def mc_math_bits_Len64 : MC :=
  .seq (.reg [⟨some 2, none, .mv (.c (.int .i64 0))⟩]) (.seq (.seq (.reg [⟨some 3, none, .mv (.t 0)⟩, ⟨some 4, none, .bin .geq (.t 3) (.c (.int .u64 4294967296))⟩]) (.cond (.t 4) (.seq (.reg [⟨some 5, none, .mv (.t 0)⟩, ⟨some 6, none, .bin .shr (.t 5) (.c (.int .u64 32))⟩, ⟨some 0, none, .mv (.t 6)⟩]) (.reg [⟨some 2, none, .mv (.c (.int .i64 32))⟩])) .skip)) (.seq (.seq (.reg [⟨some 7, none, .mv (.t 0)⟩, ⟨some 8, none, .bin .geq (.t 7) (.c (.int .u64 65536))⟩]) (.cond (.t 8) (.seq (.reg [⟨some 9, none, .mv (.t 0)⟩, ⟨some 10, none, .bin .shr (.t 9) (.c (.int .u64 16))⟩, ⟨some 0, none, .mv (.t 10)⟩]) (.reg [⟨some 11, none, .mv (.t 2)⟩, ⟨some 12, none, .bin .add (.t 11) (.c (.int .i64 16))⟩, ⟨some 2, none, .mv (.t 12)⟩])) .skip)) (.seq (.seq (.reg [⟨some 13, none, .mv (.t 0)⟩, ⟨some 14, none, .bin .geq (.t 13) (.c (.int .u64 256))⟩]) (.cond (.t 14) (.seq (.reg [⟨some 15, none, .mv (.t 0)⟩, ⟨some 16, none, .bin .shr (.t 15) (.c (.int .u64 8))⟩, ⟨some 0, none, .mv (.t 16)⟩]) (.reg [⟨some 17, none, .mv (.t 2)⟩, ⟨some 18, none, .bin .add (.t 17) (.c (.int .i64 8))⟩, ⟨some 2, none, .mv (.t 18)⟩])) .skip)) (.seq (.reg [⟨some 19, none, .mv (.t 2)⟩, ⟨some 20, none, .mv (.t 0)⟩, ⟨some 21, none, .conv .u8 (.t 20)⟩, ⟨some 22, none, .chr (.c (.str [0, 1, 2, 2, 3, 3, 3, 3, 4, 4, 4, 4, 4, 4, 4, 4, 5, 5, 5, 5, 5, 5, 5, 5, 5, 5, 5, 5, 5, 5, 5, 5, 6, 6, 6, 6, 6, 6, 6, 6, 6, 6, 6, 6, 6, 6, 6, 6, 6, 6, 6, 6, 6, 6, 6, 6, 6, 6, 6, 6, 6, 6, 6, 6, 7, 7, 7, 7, 7, 7, 7, 7, 7, 7, 7, 7, 7, 7, 7, 7, 7, 7, 7, 7, 7, 7, 7, 7, 7, 7, 7, 7, 7, 7, 7, 7, 7, 7, 7, 7, 7, 7, 7, 7, 7, 7, 7, 7, 7, 7, 7, 7, 7, 7, 7, 7, 7, 7, 7, 7, 7, 7, 7, 7, 7, 7, 7, 7, 8, 8, 8, 8, 8, 8, 8, 8, 8, 8, 8, 8, 8, 8, 8, 8, 8, 8, 8, 8, 8, 8, 8, 8, 8, 8, 8, 8, 8, 8, 8, 8, 8, 8, 8, 8, 8, 8, 8, 8, 8, 8, 8, 8, 8, 8, 8, 8, 8, 8, 8, 8, 8, 8, 8, 8, 8, 8, 8, 8, 8, 8, 8, 8, 8, 8, 8, 8, 8, 8, 8, 8, 8, 8, 8, 8, 8, 8, 8, 8, 8, 8, 8, 8, 8, 8, 8, 8, 8, 8, 8, 8, 8, 8, 8, 8, 8, 8, 8, 8, 8, 8, 8, 8, 8, 8, 8, 8, 8, 8, 8, 8, 8, 8, 8, 8, 8, 8, 8, 8, 8, 8, 8, 8, 8, 8, 8, 8])) (.t 21)⟩, ⟨some 23, none, .conv .i64 (.t 22)⟩, ⟨some 24, none, .bin .add (.t 19) (.t 23)⟩, ⟨some 2, none, .mv (.t 24)⟩]) .ret))))
theorem code_math_bits_Len64 : HasCode Try.prog fn_math_bits_Len64 mc_math_bits_Len64 [.t 2] 25 := ⟨mixed, Try.f98, _, Try.func98, rfl, by kernel_rfl, by kernel_rfl, rfl, by kernel_rfl⟩

end Go.Rx.Try
