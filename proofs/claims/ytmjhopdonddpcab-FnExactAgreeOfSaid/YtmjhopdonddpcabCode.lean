/-
  The code of each function of the program, taken up. Made by a program.
-/
import Derived.Test.YtmjhopdonddpcabProg
import Derived.Test.YtmjhopdonddpcabRxI
import Derived.KernelRfl
namespace Go.Rx.Try
open Go.Proofs
set_option maxRecDepth 100000

abbrev fn_laws_FnRunCount : FuncId := 3
abbrev fn_laws_FnExactValidData : FuncId := 4
abbrev fn_laws_FnExactRanksOf : FuncId := 5
abbrev fn_laws_FnExactTiesOf : FuncId := 6
abbrev fn_laws_FnExactMiddleOf : FuncId := 7
abbrev fn_laws_FnExactAgreeOf : FuncId := 8
abbrev fn_laws_FnExactRankGap : FuncId := 9
abbrev fn_laws_FnExactFallCounts : FuncId := 10
abbrev fn_laws_FnExactAgreeChance : FuncId := 11
abbrev fn_laws_FnExactSplitChance : FuncId := 12
abbrev fn_laws_FnExactWinsOf : FuncId := 13
abbrev fn_laws_FnExactWinCounts : FuncId := 14
abbrev fn_spec_DrawRunCount : FuncId := 15
abbrev fn_impl_RunCount : FuncId := 16
abbrev fn_spec_RunCount : FuncId := 17
abbrev fn_laws_choose : FuncId := 18
abbrev fn_spec_ValidData : FuncId := 19
abbrev fn_laws_toIntS : FuncId := 20
abbrev fn_impl_ValidData : FuncId := 21
abbrev fn_laws_eqIntS : FuncId := 22
abbrev fn_spec_RanksOf : FuncId := 23
abbrev fn_impl_RanksOf : FuncId := 24
abbrev fn_laws_markIntS : FuncId := 25
abbrev fn_laws_heldIntS : FuncId := 26
abbrev fn_spec_TiesOf : FuncId := 27
abbrev fn_impl_TiesOf : FuncId := 28
abbrev fn_spec_MiddleOf : FuncId := 29
abbrev fn_impl_MiddleOf : FuncId := 30
abbrev fn_spec_AgreeOf : FuncId := 31
abbrev fn_impl_AgreeOf : FuncId := 32
abbrev fn_spec_RankGap : FuncId := 33
abbrev fn_impl_RankGap : FuncId := 34
abbrev fn_spec_FallCounts : FuncId := 35
abbrev fn_impl_FallCounts : FuncId := 36
abbrev fn_spec_AgreeChance : FuncId := 37
abbrev fn_impl_AgreeChance : FuncId := 38
abbrev fn_spec_SplitChance : FuncId := 39
abbrev fn_impl_SplitChance : FuncId := 40
abbrev fn_spec_WinsOf : FuncId := 41
abbrev fn_impl_WinsOf : FuncId := 42
abbrev fn_spec_WinCounts : FuncId := 43
abbrev fn_impl_WinCounts : FuncId := 44
abbrev fn_spec_newReader : FuncId := 45
abbrev fn_spec_reader_one : FuncId := 46
abbrev fn_impl_splits : FuncId := 47
abbrev fn_impl_places_has : FuncId := 48
abbrev fn_spec_inRange : FuncId := 49
abbrev fn_spec_choose : FuncId := 50
abbrev fn_spec_validData : FuncId := 51
abbrev fn_spec_ranks : FuncId := 52
abbrev fn_impl_twiceRanks : FuncId := 53
abbrev fn_impl_sortedCopy : FuncId := 54
abbrev fn_spec_middle : FuncId := 55
abbrev fn_impl_twiceMiddle : FuncId := 56
abbrev fn_spec_validTwo : FuncId := 57
abbrev fn_spec_kendall : FuncId := 58
abbrev fn_impl_validPair : FuncId := 59
abbrev fn_impl_AgreeOf_1 : FuncId := 60
abbrev fn_cmp_Compare_int : FuncId := 61
abbrev fn_impl_agreement : FuncId := 62
abbrev fn_spec_falls : FuncId := 63
abbrev fn_impl_withOneMore : FuncId := 64
abbrev fn_spec_validSamples : FuncId := 65
abbrev fn_spec_atLeast : FuncId := 66
abbrev fn_spec_sum : FuncId := 67
abbrev fn_impl_validSamples : FuncId := 68
abbrev fn_slices_Concat_ints : FuncId := 69
abbrev fn_impl_sumAt : FuncId := 70
abbrev fn_impl_firstPlaces : FuncId := 71
abbrev fn_spec_wins : FuncId := 72
abbrev fn_spec_winCounts : FuncId := 73
abbrev fn_impl_winsIn : FuncId := 74
abbrev fn_spec_reader_pick : FuncId := 75
abbrev fn_impl_splits_1 : FuncId := 76
abbrev fn_math_bits_OnesCount : FuncId := 77
abbrev fn_slices_Clone_ints : FuncId := 78
abbrev fn_slices_Sort_ints : FuncId := 79
abbrev fn_spec_sorted : FuncId := 80
abbrev fn_spec_sign : FuncId := 81
abbrev fn_cmp_isNaN_int : FuncId := 82
abbrev fn_slices_Grow_ints : FuncId := 83
abbrev fn_math_bits_OnesCount32 : FuncId := 84
abbrev fn_math_bits_OnesCount64 : FuncId := 85
abbrev fn_slices_pdqsortOrdered_int : FuncId := 86
abbrev fn_math_bits_Len : FuncId := 87
abbrev fn_slices_insertionSortOrdered_int : FuncId := 88
abbrev fn_slices_heapSortOrdered_int : FuncId := 89
abbrev fn_slices_breakPatternsOrdered_int : FuncId := 90
abbrev fn_slices_choosePivotOrdered_int : FuncId := 91
abbrev fn_slices_reverseRangeOrdered_int : FuncId := 92
abbrev fn_slices_partialInsertionSortOrdered_int : FuncId := 93
abbrev fn_cmp_Less_int : FuncId := 94
abbrev fn_slices_partitionEqualOrdered_int : FuncId := 95
abbrev fn_slices_partitionOrdered_int : FuncId := 96
abbrev fn_math_bits_Len32 : FuncId := 97
abbrev fn_math_bits_Len64 : FuncId := 98
abbrev fn_slices_siftDownOrdered_int : FuncId := 99
abbrev fn_slices_nextPowerOfTwo : FuncId := 100
abbrev fn_slices_xorshift_Next : FuncId := 101
abbrev fn_slices_medianAdjacentOrdered_int : FuncId := 102
abbrev fn_slices_medianOrdered_int : FuncId := 103
abbrev fn_slices_order2Ordered_int : FuncId := 104
abbrev fn_runtime_boundsError_Error : FuncId := 105
abbrev fn_runtime_boundsError_RuntimeError : FuncId := 106
abbrev fn_runtime_errorString_Error : FuncId := 107
abbrev fn_runtime_errorString_RuntimeError : FuncId := 108
abbrev fn_runtime_plainError_Error : FuncId := 109
abbrev fn_runtime_plainError_RuntimeError : FuncId := 110
abbrev fn_runtime_errorAddressString_Error : FuncId := 111
abbrev fn_runtime_errorAddressString_RuntimeError : FuncId := 112
abbrev fn_runtime_TypeAssertionError_Error : FuncId := 113
abbrev fn_runtime_TypeAssertionError_RuntimeError : FuncId := 114
abbrev fn_runtime_PanicNilError_Error : FuncId := 115
abbrev fn_runtime_PanicNilError_RuntimeError : FuncId := 116
abbrev fn_internal_abi_Type_Align : FuncId := 117
abbrev fn_internal_runtime_maps_unhashableTypeError_Error : FuncId := 118
abbrev fn_internal_runtime_maps_unhashableTypeError_RuntimeError : FuncId := 119
abbrev fn_internal_abi_Kind_String : FuncId := 120
theorem mixed : Try.prog.follows .mixedOrders = true := by kernel_rfl

def mc_laws_FnExactAgreeOf : MC :=
  .seq (.reg [⟨some 4, none, .mv (.c (.bool false))⟩]) (.seq (.seq (.reg [⟨some 11, none, .mv (.t 0)⟩, ⟨some 12, none, .len (.t 11)⟩, ⟨some 13, none, .bin .gtr (.t 12) (.c (.int .i64 1048576))⟩]) (.cond (.t 13) (.seq (.reg [⟨some 4, none, .mv (.c (.bool true))⟩]) .ret) .skip)) (.seq (.seq (.reg [⟨some 14, none, .mv (.t 1)⟩, ⟨some 15, none, .len (.t 14)⟩, ⟨some 16, none, .bin .gtr (.t 15) (.c (.int .i64 1048576))⟩]) (.cond (.t 16) (.seq (.reg [⟨some 4, none, .mv (.c (.bool true))⟩]) .ret) .skip)) (.seq (.reg [⟨some 18, none, .mv (.t 0)⟩, ⟨some 19, none, .call fn_laws_toIntS [.t 18]⟩, ⟨some 20, none, .mv (.t 1)⟩, ⟨some 21, none, .call fn_laws_toIntS [.t 20]⟩, ⟨some 22, none, .call fn_spec_AgreeOf [.t 19, .t 21]⟩, ⟨some 17, none, .mv (.t 22)⟩, ⟨some 23, none, .ext (.t 17) 0⟩, ⟨some 24, none, .ext (.t 17) 1⟩, ⟨some 5, none, .mv (.t 23)⟩, ⟨some 6, none, .mv (.t 24)⟩]) (.seq (.reg [⟨some 25, none, .mv (.t 0)⟩, ⟨some 26, none, .call fn_laws_toIntS [.t 25]⟩, ⟨some 7, none, .mv (.t 26)⟩]) (.seq (.reg [⟨some 27, none, .mv (.t 1)⟩, ⟨some 28, none, .call fn_laws_toIntS [.t 27]⟩, ⟨some 8, none, .mv (.t 28)⟩]) (.seq (.reg [⟨some 30, none, .mv (.t 7)⟩, ⟨some 31, none, .mv (.t 8)⟩, ⟨some 32, none, .call fn_impl_AgreeOf [.t 30, .t 31]⟩, ⟨some 29, none, .mv (.t 32)⟩, ⟨some 33, none, .ext (.t 29) 0⟩, ⟨some 34, none, .ext (.t 29) 1⟩, ⟨some 9, none, .mv (.t 33)⟩, ⟨some 10, none, .mv (.t 34)⟩]) (.seq (.seq (.reg [⟨some 35, none, .mv (.t 9)⟩, ⟨some 36, none, .mv (.t 5)⟩, ⟨some 37, none, .bin .neq (.t 35) (.t 36)⟩, ⟨some 38, none, .mv (.t 37)⟩, ⟨some 39, some (38, false), .mv (.t 10)⟩, ⟨some 40, some (38, false), .mv (.t 6)⟩, ⟨some 41, some (38, false), .beq true (.t 39) (.t 40)⟩, ⟨some 42, none, .pick (.t 38) (.c (.bool true)) (.t 41)⟩]) (.cond (.t 42) (.seq (.reg [⟨some 4, none, .mv (.c (.bool false))⟩]) .ret) .skip)) (.seq (.seq (.reg [⟨some 43, none, .mv (.t 7)⟩, ⟨some 44, none, .mv (.t 0)⟩, ⟨some 45, none, .call fn_laws_toIntS [.t 44]⟩, ⟨some 46, none, .call fn_laws_eqIntS [.t 43, .t 45]⟩, ⟨some 47, none, .un .not (.t 46)⟩]) (.cond (.t 47) (.seq (.reg [⟨some 4, none, .mv (.c (.bool false))⟩]) .ret) .skip)) (.seq (.seq (.reg [⟨some 48, none, .mv (.t 8)⟩, ⟨some 49, none, .mv (.t 1)⟩, ⟨some 50, none, .call fn_laws_toIntS [.t 49]⟩, ⟨some 51, none, .call fn_laws_eqIntS [.t 48, .t 50]⟩, ⟨some 52, none, .un .not (.t 51)⟩]) (.cond (.t 52) (.seq (.reg [⟨some 4, none, .mv (.c (.bool false))⟩]) .ret) .skip)) (.seq (.reg [⟨some 4, none, .mv (.c (.bool true))⟩]) .ret))))))))))
theorem code_laws_FnExactAgreeOf : HasCode Try.prog fn_laws_FnExactAgreeOf mc_laws_FnExactAgreeOf [.t 4] 53 := ⟨mixed, Try.f8, _, Try.func8, rfl, by kernel_rfl, by kernel_rfl, rfl, by kernel_rfl⟩

def mc_laws_toIntS : MC :=
  .seq (.reg [⟨some 2, none, .mv (.c .nilSlice)⟩]) (.seq (.reg [⟨some 5, none, .mv (.t 0)⟩, ⟨some 6, none, .len (.t 5)⟩, ⟨some 7, none, .mks (.t 6) (.t 6) [.int .i64 0] 1 8⟩, ⟨some 3, none, .mv (.t 7)⟩]) (.seq (.seq (.reg [⟨some 4, none, .mv (.c (.int .i64 0))⟩]) (.block 0 (.loop (.seq (.seq (.reg [⟨some 8, none, .mv (.t 4)⟩, ⟨some 9, none, .mv (.t 0)⟩, ⟨some 10, none, .len (.t 9)⟩, ⟨some 11, none, .bin .lss (.t 8) (.t 10)⟩]) (.cond (.t 11) .skip (.exit 0))) (.seq (.block 1 (.reg [⟨some 14, none, .mv (.t 3)⟩, ⟨some 15, none, .mv (.t 4)⟩, ⟨some 16, none, .mv (.t 0)⟩, ⟨some 17, none, .mv (.t 4)⟩, ⟨some 18, none, .ixa (.t 16) (.t 17) 1⟩, ⟨some 19, none, .ld (.t 18) 1 false⟩, ⟨some 20, none, .ixa (.t 14) (.t 15) 1⟩, ⟨none, none, .st (.t 20) (.t 19) 1⟩])) (.reg [⟨some 12, none, .mv (.t 4)⟩, ⟨some 13, none, .bin .add (.t 12) (.c (.int .i64 1))⟩, ⟨some 4, none, .mv (.t 13)⟩])))))) (.seq (.reg [⟨some 21, none, .mv (.t 3)⟩, ⟨some 2, none, .mv (.t 21)⟩]) .ret)))
theorem code_laws_toIntS : HasCode Try.prog fn_laws_toIntS mc_laws_toIntS [.t 2] 22 := ⟨mixed, Try.f20, _, Try.func20, rfl, by kernel_rfl, by kernel_rfl, rfl, by kernel_rfl⟩

def mc_impl_ValidData : MC :=
  .seq (.reg [⟨some 2, none, .mv (.c (.bool false))⟩]) (.seq (.seq (.reg [⟨some 5, none, .mv (.t 0)⟩, ⟨some 6, none, .len (.t 5)⟩, ⟨some 7, none, .bin .gtr (.t 6) (.c (.int .i64 10))⟩]) (.cond (.t 7) (.seq (.reg [⟨some 2, none, .mv (.c (.bool false))⟩]) .ret) .skip)) (.seq (.seq (.reg [⟨some 8, none, .mv (.t 0)⟩, ⟨some 9, none, .len (.t 8)⟩, ⟨some 10, none, .mv (.c (.int .i64 0))⟩]) (.block 0 (.loop (.seq (.reg [⟨some 11, none, .bin .lss (.t 10) (.t 9)⟩]) (.seq (.cond (.t 11) .skip (.exit 0)) (.seq (.block 1 (.seq (.reg [⟨some 12, none, .ixa (.t 8) (.t 10) 1⟩, ⟨some 13, none, .ld (.t 12) 1 false⟩, ⟨some 4, none, .mv (.t 13)⟩]) (.seq (.reg [⟨some 14, none, .mv (.t 4)⟩, ⟨some 15, none, .bin .lss (.t 14) (.c (.int .i64 (-200)))⟩, ⟨some 16, none, .mv (.t 15)⟩, ⟨some 17, some (16, false), .mv (.t 4)⟩, ⟨some 18, some (16, false), .bin .gtr (.t 17) (.c (.int .i64 200))⟩, ⟨some 19, none, .pick (.t 16) (.c (.bool true)) (.t 18)⟩]) (.cond (.t 19) (.seq (.reg [⟨some 2, none, .mv (.c (.bool false))⟩]) .ret) .skip)))) (.reg [⟨some 20, none, .bin .add (.t 10) (.c (.int .i64 1))⟩, ⟨some 10, none, .mv (.t 20)⟩]))))))) (.seq (.reg [⟨some 2, none, .mv (.c (.bool true))⟩]) .ret)))
theorem code_impl_ValidData : HasCode Try.prog fn_impl_ValidData mc_impl_ValidData [.t 2] 21 := ⟨mixed, Try.f21, _, Try.func21, rfl, by kernel_rfl, by kernel_rfl, rfl, by kernel_rfl⟩

def mc_laws_eqIntS : MC :=
  .seq (.reg [⟨some 4, none, .mv (.c (.bool false))⟩]) (.seq (.seq (.reg [⟨some 6, none, .mv (.t 0)⟩, ⟨some 7, none, .len (.t 6)⟩, ⟨some 8, none, .mv (.t 1)⟩, ⟨some 9, none, .len (.t 8)⟩, ⟨some 10, none, .bin .neq (.t 7) (.t 9)⟩]) (.cond (.t 10) (.seq (.reg [⟨some 4, none, .mv (.c (.bool false))⟩]) .ret) .skip)) (.seq (.seq (.reg [⟨some 5, none, .mv (.c (.int .i64 0))⟩]) (.block 0 (.loop (.seq (.seq (.reg [⟨some 11, none, .mv (.t 5)⟩, ⟨some 12, none, .mv (.t 0)⟩, ⟨some 13, none, .len (.t 12)⟩, ⟨some 14, none, .bin .lss (.t 11) (.t 13)⟩]) (.cond (.t 14) .skip (.exit 0))) (.seq (.block 1 (.seq (.drq [⟨some 17, none, .mv (.t 0)⟩, ⟨some 18, none, .mv (.t 5)⟩, ⟨some 19, none, .ixa (.t 17) (.t 18) 1⟩, ⟨some 20, none, .ld (.t 19) 1 false⟩, ⟨some 21, none, .mv (.t 1)⟩, ⟨some 22, none, .mv (.t 5)⟩, ⟨some 23, none, .ixa (.t 21) (.t 22) 1⟩, ⟨some 24, none, .ld (.t 23) 1 false⟩, ⟨some 25, none, .bin .neq (.t 20) (.t 24)⟩]) (.cond (.t 25) (.seq (.reg [⟨some 4, none, .mv (.c (.bool false))⟩]) .ret) .skip))) (.reg [⟨some 15, none, .mv (.t 5)⟩, ⟨some 16, none, .bin .add (.t 15) (.c (.int .i64 1))⟩, ⟨some 5, none, .mv (.t 16)⟩])))))) (.seq (.reg [⟨some 4, none, .mv (.c (.bool true))⟩]) .ret)))
theorem code_laws_eqIntS : HasCode Try.prog fn_laws_eqIntS mc_laws_eqIntS [.t 4] 26 := ⟨mixed, Try.f22, _, Try.func22, rfl, by kernel_rfl, by kernel_rfl, rfl, by kernel_rfl⟩

def mc_spec_AgreeOf : MC :=
  .seq (.reg [⟨some 4, none, .mv (.c (.int .i64 0))⟩, ⟨some 5, none, .mv (.c (.bool false))⟩]) (.seq (.seq (.reg [⟨some 6, none, .mv (.t 0)⟩, ⟨some 7, none, .mv (.t 1)⟩, ⟨some 8, none, .call fn_spec_validTwo [.t 6, .t 7]⟩, ⟨some 9, none, .un .not (.t 8)⟩]) (.cond (.t 9) (.seq (.reg [⟨some 4, none, .mv (.c (.int .i64 0))⟩, ⟨some 5, none, .mv (.c (.bool false))⟩]) .ret) .skip)) (.seq (.reg [⟨some 10, none, .mv (.t 0)⟩, ⟨some 11, none, .mv (.t 1)⟩, ⟨some 12, none, .call fn_spec_kendall [.t 10, .t 11]⟩, ⟨some 4, none, .mv (.t 12)⟩, ⟨some 5, none, .mv (.c (.bool true))⟩]) .ret))
theorem code_spec_AgreeOf : HasCode Try.prog fn_spec_AgreeOf mc_spec_AgreeOf [.t 4, .t 5] 13 := ⟨mixed, Try.f31, _, Try.func31, rfl, by kernel_rfl, by kernel_rfl, rfl, by kernel_rfl⟩

def mc_impl_AgreeOf : MC :=
  .seq (.reg [⟨some 4, none, .mv (.c (.int .i64 0))⟩, ⟨some 5, none, .mv (.c (.bool false))⟩]) (.seq (.seq (.reg [⟨some 10, none, .mv (.t 0)⟩, ⟨some 11, none, .mv (.t 1)⟩, ⟨some 12, none, .call fn_impl_validPair [.t 10, .t 11]⟩, ⟨some 13, none, .un .not (.t 12)⟩]) (.cond (.t 13) (.seq (.reg [⟨some 4, none, .mv (.c (.int .i64 0))⟩, ⟨some 5, none, .mv (.c (.bool false))⟩]) .ret) .skip)) (.seq (.reg [⟨some 6, none, .mv (.c (.int .i64 0))⟩]) (.seq (.seq (.reg [⟨some 14, none, .mv (.t 0)⟩, ⟨some 15, none, .len (.t 14)⟩, ⟨some 16, none, .mv (.c (.int .i64 0))⟩]) (.block 0 (.loop (.seq (.reg [⟨some 17, none, .bin .lss (.t 16) (.t 15)⟩]) (.seq (.cond (.t 17) .skip (.exit 0)) (.seq (.block 1 (.seq (.reg [⟨some 18, none, .mv (.t 16)⟩, ⟨some 7, none, .new [.int .i64 0]⟩, ⟨none, none, .st (.t 7) (.t 18) 1⟩]) (.seq (.reg [⟨some 19, none, .ld (.t 7) 1 false⟩, ⟨some 20, none, .mv (.c (.int .i64 0))⟩]) (.block 2 (.loop (.seq (.reg [⟨some 21, none, .bin .lss (.t 20) (.t 19)⟩]) (.seq (.cond (.t 21) .skip (.exit 2)) (.seq (.block 3 (.seq (.reg [⟨some 22, none, .mv (.t 20)⟩, ⟨some 8, none, .new [.int .i64 0]⟩, ⟨none, none, .st (.t 8) (.t 22) 1⟩]) (.seq (.reg [⟨some 23, none, .mkf fn_impl_AgreeOf_1 [.t 8, .t 7]⟩, ⟨some 9, none, .mv (.t 23)⟩]) (.reg [⟨some 24, none, .mv (.t 6)⟩, ⟨some 25, none, .mv (.t 9)⟩, ⟨some 26, none, .mv (.t 0)⟩, ⟨some 27, none, .callv (.t 25) [.t 26]⟩, ⟨some 28, none, .mv (.t 9)⟩, ⟨some 29, none, .mv (.t 1)⟩, ⟨some 30, none, .callv (.t 28) [.t 29]⟩, ⟨some 31, none, .bld [.int .i64 0, .int .i64 0] [(0, 1, .t 27), (1, 1, .t 30)]⟩, ⟨some 32, none, .call fn_impl_agreement [.t 31]⟩, ⟨some 33, none, .bin .add (.t 24) (.t 32)⟩, ⟨some 6, none, .mv (.t 33)⟩])))) (.reg [⟨some 34, none, .bin .add (.t 20) (.c (.int .i64 1))⟩, ⟨some 20, none, .mv (.t 34)⟩]))))))))) (.reg [⟨some 35, none, .bin .add (.t 16) (.c (.int .i64 1))⟩, ⟨some 16, none, .mv (.t 35)⟩]))))))) (.seq (.reg [⟨some 36, none, .mv (.t 6)⟩, ⟨some 4, none, .mv (.t 36)⟩, ⟨some 5, none, .mv (.c (.bool true))⟩]) .ret))))
theorem code_impl_AgreeOf : HasCode Try.prog fn_impl_AgreeOf mc_impl_AgreeOf [.t 4, .t 5] 37 := ⟨mixed, Try.f32, _, Try.func32, rfl, by kernel_rfl, by kernel_rfl, rfl, by kernel_rfl⟩

def mc_spec_inRange : MC :=
  .seq (.reg [⟨some 6, none, .mv (.c (.bool false))⟩]) (.seq (.reg [⟨some 7, none, .mv (.t 1)⟩, ⟨some 8, none, .mv (.t 0)⟩, ⟨some 9, none, .bin .leq (.t 7) (.t 8)⟩, ⟨some 10, none, .mv (.t 9)⟩, ⟨some 11, some (10, true), .mv (.t 0)⟩, ⟨some 12, some (10, true), .mv (.t 2)⟩, ⟨some 13, some (10, true), .bin .leq (.t 11) (.t 12)⟩, ⟨some 14, none, .pick (.t 10) (.t 13) (.c (.bool false))⟩, ⟨some 6, none, .mv (.t 14)⟩]) .ret)
theorem code_spec_inRange : HasCode Try.prog fn_spec_inRange mc_spec_inRange [.t 6] 15 := ⟨mixed, Try.f49, _, Try.func49, rfl, by kernel_rfl, by kernel_rfl, rfl, by kernel_rfl⟩

def mc_spec_validData : MC :=
  .seq (.reg [⟨some 2, none, .mv (.c (.bool false))⟩]) (.seq (.seq (.reg [⟨some 3, none, .mv (.c (.int .i64 0))⟩]) (.block 0 (.loop (.seq (.seq (.reg [⟨some 4, none, .mv (.t 3)⟩, ⟨some 5, none, .mv (.t 0)⟩, ⟨some 6, none, .len (.t 5)⟩, ⟨some 7, none, .bin .lss (.t 4) (.t 6)⟩]) (.cond (.t 7) .skip (.exit 0))) (.seq (.block 1 (.seq (.reg [⟨some 10, none, .mv (.t 0)⟩, ⟨some 11, none, .mv (.t 3)⟩, ⟨some 12, none, .ixa (.t 10) (.t 11) 1⟩, ⟨some 13, none, .ld (.t 12) 1 false⟩, ⟨some 14, none, .call fn_spec_inRange [.t 13, .c (.int .i64 (-200)), .c (.int .i64 200)]⟩, ⟨some 15, none, .un .not (.t 14)⟩]) (.cond (.t 15) (.seq (.reg [⟨some 2, none, .mv (.c (.bool false))⟩]) .ret) .skip))) (.reg [⟨some 8, none, .mv (.t 3)⟩, ⟨some 9, none, .bin .add (.t 8) (.c (.int .i64 1))⟩, ⟨some 3, none, .mv (.t 9)⟩])))))) (.seq (.reg [⟨some 16, none, .mv (.t 0)⟩, ⟨some 17, none, .len (.t 16)⟩, ⟨some 18, none, .bin .leq (.t 17) (.c (.int .i64 10))⟩, ⟨some 2, none, .mv (.t 18)⟩]) .ret))
theorem code_spec_validData : HasCode Try.prog fn_spec_validData mc_spec_validData [.t 2] 19 := ⟨mixed, Try.f51, _, Try.func51, rfl, by kernel_rfl, by kernel_rfl, rfl, by kernel_rfl⟩

def mc_spec_validTwo : MC :=
  .seq (.reg [⟨some 4, none, .mv (.c (.bool false))⟩]) (.seq (.reg [⟨some 5, none, .mv (.t 0)⟩, ⟨some 6, none, .call fn_spec_validData [.t 5]⟩, ⟨some 7, none, .mv (.t 6)⟩, ⟨some 8, some (7, true), .mv (.t 1)⟩, ⟨some 9, some (7, true), .call fn_spec_validData [.t 8]⟩, ⟨some 10, none, .pick (.t 7) (.t 9) (.c (.bool false))⟩, ⟨some 11, none, .mv (.t 10)⟩, ⟨some 12, some (11, true), .mv (.t 0)⟩, ⟨some 13, some (11, true), .len (.t 12)⟩, ⟨some 14, some (11, true), .mv (.t 1)⟩, ⟨some 15, some (11, true), .len (.t 14)⟩, ⟨some 16, some (11, true), .bin .eql (.t 13) (.t 15)⟩, ⟨some 17, none, .pick (.t 11) (.t 16) (.c (.bool false))⟩, ⟨some 4, none, .mv (.t 17)⟩]) .ret)
theorem code_spec_validTwo : HasCode Try.prog fn_spec_validTwo mc_spec_validTwo [.t 4] 18 := ⟨mixed, Try.f57, _, Try.func57, rfl, by kernel_rfl, by kernel_rfl, rfl, by kernel_rfl⟩

def mc_spec_kendall : MC :=
  .seq (.reg [⟨some 4, none, .mv (.c (.int .i64 0))⟩]) (.seq (.reg [⟨some 5, none, .mv (.c (.int .i64 0))⟩]) (.seq (.seq (.reg [⟨some 6, none, .mv (.c (.int .i64 0))⟩]) (.block 0 (.loop (.seq (.seq (.reg [⟨some 8, none, .mv (.t 6)⟩, ⟨some 9, none, .mv (.t 0)⟩, ⟨some 10, none, .len (.t 9)⟩, ⟨some 11, none, .bin .lss (.t 8) (.t 10)⟩]) (.cond (.t 11) .skip (.exit 0))) (.seq (.block 1 (.seq (.reg [⟨some 7, none, .mv (.c (.int .i64 0))⟩]) (.block 2 (.loop (.seq (.seq (.reg [⟨some 14, none, .mv (.t 7)⟩, ⟨some 15, none, .mv (.t 6)⟩, ⟨some 16, none, .bin .lss (.t 14) (.t 15)⟩]) (.cond (.t 16) .skip (.exit 2))) (.seq (.block 3 (.drq [⟨some 19, none, .mv (.t 5)⟩, ⟨some 20, none, .mv (.t 0)⟩, ⟨some 21, none, .mv (.t 6)⟩, ⟨some 22, none, .ixa (.t 20) (.t 21) 1⟩, ⟨some 23, none, .ld (.t 22) 1 false⟩, ⟨some 24, none, .mv (.t 0)⟩, ⟨some 25, none, .mv (.t 7)⟩, ⟨some 26, none, .ixa (.t 24) (.t 25) 1⟩, ⟨some 27, none, .ld (.t 26) 1 false⟩, ⟨some 28, none, .bin .sub (.t 23) (.t 27)⟩, ⟨some 29, none, .call fn_spec_sign [.t 28]⟩, ⟨some 30, none, .mv (.t 1)⟩, ⟨some 31, none, .mv (.t 6)⟩, ⟨some 32, none, .ixa (.t 30) (.t 31) 1⟩, ⟨some 33, none, .ld (.t 32) 1 false⟩, ⟨some 34, none, .mv (.t 1)⟩, ⟨some 35, none, .mv (.t 7)⟩, ⟨some 36, none, .ixa (.t 34) (.t 35) 1⟩, ⟨some 37, none, .ld (.t 36) 1 false⟩, ⟨some 38, none, .bin .sub (.t 33) (.t 37)⟩, ⟨some 39, none, .call fn_spec_sign [.t 38]⟩, ⟨some 40, none, .bin .mul (.t 29) (.t 39)⟩, ⟨some 41, none, .bin .add (.t 19) (.t 40)⟩, ⟨some 5, none, .mv (.t 41)⟩])) (.reg [⟨some 17, none, .mv (.t 7)⟩, ⟨some 18, none, .bin .add (.t 17) (.c (.int .i64 1))⟩, ⟨some 7, none, .mv (.t 18)⟩]))))))) (.reg [⟨some 12, none, .mv (.t 6)⟩, ⟨some 13, none, .bin .add (.t 12) (.c (.int .i64 1))⟩, ⟨some 6, none, .mv (.t 13)⟩])))))) (.seq (.reg [⟨some 42, none, .mv (.t 5)⟩, ⟨some 4, none, .mv (.t 42)⟩]) .ret)))
theorem code_spec_kendall : HasCode Try.prog fn_spec_kendall mc_spec_kendall [.t 4] 43 := ⟨mixed, Try.f58, _, Try.func58, rfl, by kernel_rfl, by kernel_rfl, rfl, by kernel_rfl⟩

def mc_impl_validPair : MC :=
  .seq (.reg [⟨some 4, none, .mv (.c (.bool false))⟩]) (.seq (.reg [⟨some 5, none, .mv (.t 0)⟩, ⟨some 6, none, .call fn_impl_ValidData [.t 5]⟩, ⟨some 7, none, .mv (.t 6)⟩, ⟨some 8, some (7, true), .mv (.t 1)⟩, ⟨some 9, some (7, true), .call fn_impl_ValidData [.t 8]⟩, ⟨some 10, none, .pick (.t 7) (.t 9) (.c (.bool false))⟩, ⟨some 11, none, .mv (.t 10)⟩, ⟨some 12, some (11, true), .mv (.t 0)⟩, ⟨some 13, some (11, true), .len (.t 12)⟩, ⟨some 14, some (11, true), .mv (.t 1)⟩, ⟨some 15, some (11, true), .len (.t 14)⟩, ⟨some 16, some (11, true), .bin .eql (.t 13) (.t 15)⟩, ⟨some 17, none, .pick (.t 11) (.t 16) (.c (.bool false))⟩, ⟨some 4, none, .mv (.t 17)⟩]) .ret)
theorem code_impl_validPair : HasCode Try.prog fn_impl_validPair mc_impl_validPair [.t 4] 18 := ⟨mixed, Try.f59, _, Try.func59, rfl, by kernel_rfl, by kernel_rfl, rfl, by kernel_rfl⟩

def mc_impl_AgreeOf_1 : MC :=
  .seq (.reg [⟨some 4, none, .mv (.c (.int .i64 0))⟩]) (.seq (.drq [⟨some 5, none, .mv (.t 0)⟩, ⟨some 6, none, .ld (.t 1) 1 false⟩, ⟨some 7, none, .ixa (.t 5) (.t 6) 1⟩, ⟨some 8, none, .ld (.t 7) 1 false⟩, ⟨some 9, none, .mv (.t 0)⟩, ⟨some 10, none, .ld (.t 2) 1 false⟩, ⟨some 11, none, .ixa (.t 9) (.t 10) 1⟩, ⟨some 12, none, .ld (.t 11) 1 false⟩, ⟨some 13, none, .call fn_cmp_Compare_int [.t 8, .t 12]⟩, ⟨some 4, none, .mv (.t 13)⟩]) .ret)
theorem code_impl_AgreeOf_1 : HasCode Try.prog fn_impl_AgreeOf_1 mc_impl_AgreeOf_1 [.t 4] 14 := ⟨mixed, Try.f60, _, Try.func60, rfl, by kernel_rfl, by kernel_rfl, rfl, by kernel_rfl⟩

def mc_cmp_Compare_int : MC :=
  .seq (.reg [⟨some 4, none, .mv (.c (.int .i64 0))⟩]) (.seq (.reg [⟨some 7, none, .mv (.t 0)⟩, ⟨some 8, none, .call fn_cmp_isNaN_int [.t 7]⟩, ⟨some 5, none, .mv (.t 8)⟩]) (.seq (.reg [⟨some 9, none, .mv (.t 1)⟩, ⟨some 10, none, .call fn_cmp_isNaN_int [.t 9]⟩, ⟨some 6, none, .mv (.t 10)⟩]) (.seq (.seq (.reg [⟨some 11, none, .mv (.t 5)⟩]) (.cond (.t 11) (.seq (.seq (.reg [⟨some 12, none, .mv (.t 6)⟩]) (.cond (.t 12) (.seq (.reg [⟨some 4, none, .mv (.c (.int .i64 0))⟩]) .ret) .skip)) (.seq (.reg [⟨some 4, none, .mv (.c (.int .i64 (-1)))⟩]) .ret)) .skip)) (.seq (.seq (.reg [⟨some 13, none, .mv (.t 6)⟩]) (.cond (.t 13) (.seq (.reg [⟨some 4, none, .mv (.c (.int .i64 1))⟩]) .ret) .skip)) (.seq (.seq (.reg [⟨some 14, none, .mv (.t 0)⟩, ⟨some 15, none, .mv (.t 1)⟩, ⟨some 16, none, .bin .lss (.t 14) (.t 15)⟩]) (.cond (.t 16) (.seq (.reg [⟨some 4, none, .mv (.c (.int .i64 (-1)))⟩]) .ret) .skip)) (.seq (.seq (.reg [⟨some 17, none, .mv (.t 0)⟩, ⟨some 18, none, .mv (.t 1)⟩, ⟨some 19, none, .bin .gtr (.t 17) (.t 18)⟩]) (.cond (.t 19) (.seq (.reg [⟨some 4, none, .mv (.c (.int .i64 1))⟩]) .ret) .skip)) (.seq (.reg [⟨some 4, none, .mv (.c (.int .i64 0))⟩]) .ret)))))))
theorem code_cmp_Compare_int : HasCode Try.prog fn_cmp_Compare_int mc_cmp_Compare_int [.t 4] 20 := ⟨mixed, Try.f61, _, Try.func61, rfl, by kernel_rfl, by kernel_rfl, rfl, by kernel_rfl⟩

def mc_impl_agreement : MC :=
  .seq (.reg [⟨some 1, none, .box (.t 0)⟩, ⟨some 2, none, .mv (.c (.int .i64 0))⟩]) (.seq (.seq (.reg [⟨some 3, none, .ld (.t 1) 2 true⟩]) (.block 0 (.seq (.seq (.reg [⟨some 5, none, .bld [.int .i64 0, .int .i64 0] [(0, 1, .c (.int .i64 (-1))), (1, 1, .c (.int .i64 (-1)))]⟩, ⟨some 6, none, .ageq false 2 (.t 3) (.t 5)⟩, ⟨some 4, none, .mv (.t 6)⟩]) (.cond (.t 4) .skip (.reg [⟨some 7, none, .bld [.int .i64 0, .int .i64 0] [(0, 1, .c (.int .i64 1)), (1, 1, .c (.int .i64 1))]⟩, ⟨some 8, none, .ageq false 2 (.t 3) (.t 7)⟩, ⟨some 4, none, .mv (.t 8)⟩]))) (.cond (.t 4) (.seq (.reg [⟨some 2, none, .mv (.c (.int .i64 1))⟩]) .ret) (.seq (.seq (.reg [⟨some 10, none, .bld [.int .i64 0, .int .i64 0] [(0, 1, .c (.int .i64 (-1))), (1, 1, .c (.int .i64 1))]⟩, ⟨some 11, none, .ageq false 2 (.t 3) (.t 10)⟩, ⟨some 9, none, .mv (.t 11)⟩]) (.cond (.t 9) .skip (.reg [⟨some 12, none, .bld [.int .i64 0, .int .i64 0] [(0, 1, .c (.int .i64 1)), (1, 1, .c (.int .i64 (-1)))]⟩, ⟨some 13, none, .ageq false 2 (.t 3) (.t 12)⟩, ⟨some 9, none, .mv (.t 13)⟩]))) (.cond (.t 9) (.seq (.reg [⟨some 2, none, .mv (.c (.int .i64 (-1)))⟩]) .ret) .skip)))))) (.seq (.reg [⟨some 2, none, .mv (.c (.int .i64 0))⟩]) .ret))
theorem code_impl_agreement : HasCode Try.prog fn_impl_agreement mc_impl_agreement [.t 2] 14 := ⟨mixed, Try.f62, _, Try.func62, rfl, by kernel_rfl, by kernel_rfl, rfl, by kernel_rfl⟩

def mc_spec_sign : MC :=
  .seq (.reg [⟨some 2, none, .mv (.c (.int .i64 0))⟩]) (.seq (.seq (.reg [⟨some 3, none, .mv (.t 0)⟩, ⟨some 4, none, .bin .gtr (.t 3) (.c (.int .i64 0))⟩]) (.cond (.t 4) (.seq (.reg [⟨some 2, none, .mv (.c (.int .i64 1))⟩]) .ret) .skip)) (.seq (.seq (.reg [⟨some 5, none, .mv (.t 0)⟩, ⟨some 6, none, .bin .lss (.t 5) (.c (.int .i64 0))⟩]) (.cond (.t 6) (.seq (.reg [⟨some 2, none, .mv (.c (.int .i64 (-1)))⟩]) .ret) .skip)) (.seq (.reg [⟨some 2, none, .mv (.c (.int .i64 0))⟩]) .ret)))
theorem code_spec_sign : HasCode Try.prog fn_spec_sign mc_spec_sign [.t 2] 7 := ⟨mixed, Try.f81, _, Try.func81, rfl, by kernel_rfl, by kernel_rfl, rfl, by kernel_rfl⟩

def mc_cmp_isNaN_int : MC :=
  .seq (.reg [⟨some 2, none, .mv (.c (.bool false))⟩]) (.seq (.reg [⟨some 3, none, .mv (.t 0)⟩, ⟨some 4, none, .mv (.t 0)⟩, ⟨some 5, none, .bin .neq (.t 3) (.t 4)⟩, ⟨some 2, none, .mv (.t 5)⟩]) .ret)
theorem code_cmp_isNaN_int : HasCode Try.prog fn_cmp_isNaN_int mc_cmp_isNaN_int [.t 2] 6 := ⟨mixed, Try.f82, _, Try.func82, rfl, by kernel_rfl, by kernel_rfl, rfl, by kernel_rfl⟩

end Go.Rx.Try
