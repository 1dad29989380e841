/-
  The code of each function of the program, taken up. Made by a program.
-/
import Derived.Test.YtmjhopdonddpcabProg
import Derived.Test.YtmjhopdonddpcabRxI
import Derived.KernelRfl
namespace Go.Rx.Try
open Go.Proofs
set_option maxRecDepth 100000

abbrev fn_laws_FnRunCount : FuncId := 3
abbrev fn_laws_FnExactValidData : FuncId := 4
abbrev fn_laws_FnExactRanksOf : FuncId := 5
abbrev fn_laws_FnExactTiesOf : FuncId := 6
abbrev fn_laws_FnExactMiddleOf : FuncId := 7
abbrev fn_laws_FnExactAgreeOf : FuncId := 8
abbrev fn_laws_FnExactRankGap : FuncId := 9
abbrev fn_laws_FnExactFallCounts : FuncId := 10
abbrev fn_laws_FnExactAgreeChance : FuncId := 11
abbrev fn_laws_FnExactSplitChance : FuncId := 12
abbrev fn_laws_FnExactWinsOf : FuncId := 13
abbrev fn_laws_FnExactWinCounts : FuncId := 14
abbrev fn_spec_DrawRunCount : FuncId := 15
abbrev fn_impl_RunCount : FuncId := 16
abbrev fn_spec_RunCount : FuncId := 17
abbrev fn_laws_choose : FuncId := 18
abbrev fn_spec_ValidData : FuncId := 19
abbrev fn_laws_toIntS : FuncId := 20
abbrev fn_impl_ValidData : FuncId := 21
abbrev fn_laws_eqIntS : FuncId := 22
abbrev fn_spec_RanksOf : FuncId := 23
abbrev fn_impl_RanksOf : FuncId := 24
abbrev fn_laws_markIntS : FuncId := 25
abbrev fn_laws_heldIntS : FuncId := 26
abbrev fn_spec_TiesOf : FuncId := 27
abbrev fn_impl_TiesOf : FuncId := 28
abbrev fn_spec_MiddleOf : FuncId := 29
abbrev fn_impl_MiddleOf : FuncId := 30
abbrev fn_spec_AgreeOf : FuncId := 31
abbrev fn_impl_AgreeOf : FuncId := 32
abbrev fn_spec_RankGap : FuncId := 33
abbrev fn_impl_RankGap : FuncId := 34
abbrev fn_spec_FallCounts : FuncId := 35
abbrev fn_impl_FallCounts : FuncId := 36
abbrev fn_spec_AgreeChance : FuncId := 37
abbrev fn_impl_AgreeChance : FuncId := 38
abbrev fn_spec_SplitChance : FuncId := 39
abbrev fn_impl_SplitChance : FuncId := 40
abbrev fn_spec_WinsOf : FuncId := 41
abbrev fn_impl_WinsOf : FuncId := 42
abbrev fn_spec_WinCounts : FuncId := 43
abbrev fn_impl_WinCounts : FuncId := 44
abbrev fn_spec_newReader : FuncId := 45
abbrev fn_spec_reader_one : FuncId := 46
abbrev fn_impl_splits : FuncId := 47
abbrev fn_impl_places_has : FuncId := 48
abbrev fn_spec_inRange : FuncId := 49
abbrev fn_spec_choose : FuncId := 50
abbrev fn_spec_validData : FuncId := 51
abbrev fn_spec_ranks : FuncId := 52
abbrev fn_impl_twiceRanks : FuncId := 53
abbrev fn_impl_sortedCopy : FuncId := 54
abbrev fn_spec_middle : FuncId := 55
abbrev fn_impl_twiceMiddle : FuncId := 56
abbrev fn_spec_validTwo : FuncId := 57
abbrev fn_spec_kendall : FuncId := 58
abbrev fn_impl_validPair : FuncId := 59
abbrev fn_impl_AgreeOf_1 : FuncId := 60
abbrev fn_cmp_Compare_int : FuncId := 61
abbrev fn_impl_agreement : FuncId := 62
abbrev fn_spec_falls : FuncId := 63
abbrev fn_impl_withOneMore : FuncId := 64
abbrev fn_spec_validSamples : FuncId := 65
abbrev fn_spec_atLeast : FuncId := 66
abbrev fn_spec_sum : FuncId := 67
abbrev fn_impl_validSamples : FuncId := 68
abbrev fn_slices_Concat_ints : FuncId := 69
abbrev fn_impl_sumAt : FuncId := 70
abbrev fn_impl_firstPlaces : FuncId := 71
abbrev fn_spec_wins : FuncId := 72
abbrev fn_spec_winCounts : FuncId := 73
abbrev fn_impl_winsIn : FuncId := 74
abbrev fn_spec_reader_pick : FuncId := 75
abbrev fn_impl_splits_1 : FuncId := 76
abbrev fn_math_bits_OnesCount : FuncId := 77
abbrev fn_slices_Clone_ints : FuncId := 78
abbrev fn_slices_Sort_ints : FuncId := 79
abbrev fn_spec_sorted : FuncId := 80
abbrev fn_spec_sign : FuncId := 81
abbrev fn_cmp_isNaN_int : FuncId := 82
abbrev fn_slices_Grow_ints : FuncId := 83
abbrev fn_math_bits_OnesCount32 : FuncId := 84
abbrev fn_math_bits_OnesCount64 : FuncId := 85
abbrev fn_slices_pdqsortOrdered_int : FuncId := 86
abbrev fn_math_bits_Len : FuncId := 87
abbrev fn_slices_insertionSortOrdered_int : FuncId := 88
abbrev fn_slices_heapSortOrdered_int : FuncId := 89
abbrev fn_slices_breakPatternsOrdered_int : FuncId := 90
abbrev fn_slices_choosePivotOrdered_int : FuncId := 91
abbrev fn_slices_reverseRangeOrdered_int : FuncId := 92
abbrev fn_slices_partialInsertionSortOrdered_int : FuncId := 93
abbrev fn_cmp_Less_int : FuncId := 94
abbrev fn_slices_partitionEqualOrdered_int : FuncId := 95
abbrev fn_slices_partitionOrdered_int : FuncId := 96
abbrev fn_math_bits_Len32 : FuncId := 97
abbrev fn_math_bits_Len64 : FuncId := 98
abbrev fn_slices_siftDownOrdered_int : FuncId := 99
abbrev fn_slices_nextPowerOfTwo : FuncId := 100
abbrev fn_slices_xorshift_Next : FuncId := 101
abbrev fn_slices_medianAdjacentOrdered_int : FuncId := 102
abbrev fn_slices_medianOrdered_int : FuncId := 103
abbrev fn_slices_order2Ordered_int : FuncId := 104
abbrev fn_runtime_boundsError_Error : FuncId := 105
abbrev fn_runtime_boundsError_RuntimeError : FuncId := 106
abbrev fn_runtime_errorString_Error : FuncId := 107
abbrev fn_runtime_errorString_RuntimeError : FuncId := 108
abbrev fn_runtime_plainError_Error : FuncId := 109
abbrev fn_runtime_plainError_RuntimeError : FuncId := 110
abbrev fn_runtime_errorAddressString_Error : FuncId := 111
abbrev fn_runtime_errorAddressString_RuntimeError : FuncId := 112
abbrev fn_runtime_TypeAssertionError_Error : FuncId := 113
abbrev fn_runtime_TypeAssertionError_RuntimeError : FuncId := 114
abbrev fn_runtime_PanicNilError_Error : FuncId := 115
abbrev fn_runtime_PanicNilError_RuntimeError : FuncId := 116
abbrev fn_internal_abi_Type_Align : FuncId := 117
abbrev fn_internal_runtime_maps_unhashableTypeError_Error : FuncId := 118
abbrev fn_internal_runtime_maps_unhashableTypeError_RuntimeError : FuncId := 119
abbrev fn_internal_abi_Kind_String : FuncId := 120
theorem mixed : Try.prog.follows .mixedOrders = true := by kernel_rfl

def mc_laws_FnExactFallCounts : MC :=
  .seq (.reg [⟨some 2, none, .mv (.c (.bool false))⟩]) (.seq (.reg [⟨some 8, none, .mv (.t 0)⟩, ⟨some 9, none, .call fn_spec_FallCounts [.t 8]⟩, ⟨some 3, none, .mv (.t 9)⟩]) (.seq (.reg [⟨some 10, none, .mv (.t 0)⟩, ⟨some 11, none, .call fn_impl_FallCounts [.t 10]⟩, ⟨some 4, none, .mv (.t 11)⟩]) (.seq (.seq (.reg [⟨some 12, none, .mv (.t 4)⟩, ⟨some 13, none, .mv (.t 3)⟩, ⟨some 14, none, .call fn_laws_eqIntS [.t 12, .t 13]⟩, ⟨some 15, none, .un .not (.t 14)⟩]) (.cond (.t 15) (.seq (.reg [⟨some 2, none, .mv (.c (.bool false))⟩]) .ret) .skip)) (.seq (.reg [⟨some 5, none, .mv (.c (.int .i64 1))⟩]) (.seq (.reg [⟨some 16, none, .mv (.t 4)⟩, ⟨some 17, none, .mv (.t 5)⟩, ⟨some 18, none, .call fn_laws_markIntS [.t 16, .t 17]⟩, ⟨some 5, none, .mv (.t 18)⟩]) (.seq (.reg [⟨some 6, none, .mv (.c (.int .i64 1))⟩]) (.seq (.reg [⟨some 19, none, .mv (.t 4)⟩, ⟨some 20, none, .mv (.t 6)⟩, ⟨some 21, none, .call fn_laws_heldIntS [.t 19, .t 20]⟩, ⟨some 6, none, .mv (.t 21)⟩]) (.seq (.seq (.reg [⟨some 22, none, .mv (.t 6)⟩, ⟨some 23, none, .bin .lss (.t 22) (.c (.int .i64 0))⟩]) (.cond (.t 23) (.seq (.reg [⟨some 2, none, .mv (.c (.bool false))⟩]) .ret) .skip)) (.seq (.seq (.reg [⟨some 24, none, .mv (.t 6)⟩, ⟨some 25, none, .mv (.t 5)⟩, ⟨some 26, none, .bin .neq (.t 24) (.t 25)⟩]) (.cond (.t 26) (.seq (.reg [⟨some 2, none, .mv (.c (.bool false))⟩]) .ret) .skip)) (.seq (.reg [⟨some 27, none, .mv (.t 0)⟩, ⟨some 28, none, .call fn_impl_FallCounts [.t 27]⟩, ⟨some 7, none, .mv (.t 28)⟩]) (.seq (.seq (.reg [⟨some 29, none, .mv (.t 7)⟩, ⟨some 30, none, .mv (.t 3)⟩, ⟨some 31, none, .call fn_laws_eqIntS [.t 29, .t 30]⟩, ⟨some 32, none, .un .not (.t 31)⟩]) (.cond (.t 32) (.seq (.reg [⟨some 2, none, .mv (.c (.bool false))⟩]) .ret) .skip)) (.seq (.reg [⟨some 6, none, .mv (.c (.int .i64 1))⟩]) (.seq (.reg [⟨some 33, none, .mv (.t 4)⟩, ⟨some 34, none, .mv (.t 6)⟩, ⟨some 35, none, .call fn_laws_heldIntS [.t 33, .t 34]⟩, ⟨some 6, none, .mv (.t 35)⟩]) (.seq (.seq (.reg [⟨some 36, none, .mv (.t 6)⟩, ⟨some 37, none, .bin .lss (.t 36) (.c (.int .i64 0))⟩]) (.cond (.t 37) (.seq (.reg [⟨some 2, none, .mv (.c (.bool false))⟩]) .ret) .skip)) (.seq (.seq (.reg [⟨some 38, none, .mv (.t 6)⟩, ⟨some 39, none, .mv (.t 5)⟩, ⟨some 40, none, .bin .neq (.t 38) (.t 39)⟩]) (.cond (.t 40) (.seq (.reg [⟨some 2, none, .mv (.c (.bool false))⟩]) .ret) .skip)) (.seq (.reg [⟨some 2, none, .mv (.c (.bool true))⟩]) .ret))))))))))))))))
theorem code_laws_FnExactFallCounts : HasCode Try.prog fn_laws_FnExactFallCounts mc_laws_FnExactFallCounts [.t 2] 41 := ⟨mixed, Try.f10, _, Try.func10, rfl, by kernel_rfl, by kernel_rfl, rfl, by kernel_rfl⟩

def mc_laws_FnExactAgreeChance : MC :=
  .seq (.reg [⟨some 4, none, .mv (.c (.bool false))⟩]) (.seq (.reg [⟨some 10, none, .mv (.t 0)⟩, ⟨some 11, none, .mv (.t 1)⟩, ⟨some 12, none, .call fn_spec_AgreeChance [.t 10, .t 11]⟩, ⟨some 9, none, .mv (.t 12)⟩, ⟨some 13, none, .ext (.t 9) 0⟩, ⟨some 14, none, .ext (.t 9) 1⟩, ⟨some 5, none, .mv (.t 13)⟩, ⟨some 6, none, .mv (.t 14)⟩]) (.seq (.reg [⟨some 16, none, .mv (.t 0)⟩, ⟨some 17, none, .mv (.t 1)⟩, ⟨some 18, none, .call fn_impl_AgreeChance [.t 16, .t 17]⟩, ⟨some 15, none, .mv (.t 18)⟩, ⟨some 19, none, .ext (.t 15) 0⟩, ⟨some 20, none, .ext (.t 15) 1⟩, ⟨some 7, none, .mv (.t 19)⟩, ⟨some 8, none, .mv (.t 20)⟩]) (.seq (.seq (.reg [⟨some 21, none, .mv (.t 7)⟩, ⟨some 22, none, .mv (.t 5)⟩, ⟨some 23, none, .bin .neq (.t 21) (.t 22)⟩, ⟨some 24, none, .mv (.t 23)⟩, ⟨some 25, some (24, false), .mv (.t 8)⟩, ⟨some 26, some (24, false), .mv (.t 6)⟩, ⟨some 27, some (24, false), .bin .neq (.t 25) (.t 26)⟩, ⟨some 28, none, .pick (.t 24) (.c (.bool true)) (.t 27)⟩]) (.cond (.t 28) (.seq (.reg [⟨some 4, none, .mv (.c (.bool false))⟩]) .ret) .skip)) (.seq (.reg [⟨some 4, none, .mv (.c (.bool true))⟩]) .ret))))
theorem code_laws_FnExactAgreeChance : HasCode Try.prog fn_laws_FnExactAgreeChance mc_laws_FnExactAgreeChance [.t 4] 29 := ⟨mixed, Try.f11, _, Try.func11, rfl, by kernel_rfl, by kernel_rfl, rfl, by kernel_rfl⟩

def mc_spec_ValidData : MC :=
  .seq (.reg [⟨some 2, none, .mv (.c (.bool false))⟩]) (.seq (.reg [⟨some 3, none, .mv (.t 0)⟩, ⟨some 4, none, .call fn_spec_validData [.t 3]⟩, ⟨some 2, none, .mv (.t 4)⟩]) .ret)
theorem code_spec_ValidData : HasCode Try.prog fn_spec_ValidData mc_spec_ValidData [.t 2] 5 := ⟨mixed, Try.f19, _, Try.func19, rfl, by kernel_rfl, by kernel_rfl, rfl, by kernel_rfl⟩

def mc_laws_toIntS : MC :=
  .seq (.reg [⟨some 2, none, .mv (.c .nilSlice)⟩]) (.seq (.reg [⟨some 5, none, .mv (.t 0)⟩, ⟨some 6, none, .len (.t 5)⟩, ⟨some 7, none, .mks (.t 6) (.t 6) [.int .i64 0] 1 8⟩, ⟨some 3, none, .mv (.t 7)⟩]) (.seq (.seq (.reg [⟨some 4, none, .mv (.c (.int .i64 0))⟩]) (.block 0 (.loop (.seq (.seq (.reg [⟨some 8, none, .mv (.t 4)⟩, ⟨some 9, none, .mv (.t 0)⟩, ⟨some 10, none, .len (.t 9)⟩, ⟨some 11, none, .bin .lss (.t 8) (.t 10)⟩]) (.cond (.t 11) .skip (.exit 0))) (.seq (.block 1 (.reg [⟨some 14, none, .mv (.t 3)⟩, ⟨some 15, none, .mv (.t 4)⟩, ⟨some 16, none, .mv (.t 0)⟩, ⟨some 17, none, .mv (.t 4)⟩, ⟨some 18, none, .ixa (.t 16) (.t 17) 1⟩, ⟨some 19, none, .ld (.t 18) 1 false⟩, ⟨some 20, none, .ixa (.t 14) (.t 15) 1⟩, ⟨none, none, .st (.t 20) (.t 19) 1⟩])) (.reg [⟨some 12, none, .mv (.t 4)⟩, ⟨some 13, none, .bin .add (.t 12) (.c (.int .i64 1))⟩, ⟨some 4, none, .mv (.t 13)⟩])))))) (.seq (.reg [⟨some 21, none, .mv (.t 3)⟩, ⟨some 2, none, .mv (.t 21)⟩]) .ret)))
theorem code_laws_toIntS : HasCode Try.prog fn_laws_toIntS mc_laws_toIntS [.t 2] 22 := ⟨mixed, Try.f20, _, Try.func20, rfl, by kernel_rfl, by kernel_rfl, rfl, by kernel_rfl⟩

def mc_impl_ValidData : MC :=
  .seq (.reg [⟨some 2, none, .mv (.c (.bool false))⟩]) (.seq (.seq (.reg [⟨some 5, none, .mv (.t 0)⟩, ⟨some 6, none, .len (.t 5)⟩, ⟨some 7, none, .bin .gtr (.t 6) (.c (.int .i64 10))⟩]) (.cond (.t 7) (.seq (.reg [⟨some 2, none, .mv (.c (.bool false))⟩]) .ret) .skip)) (.seq (.seq (.reg [⟨some 8, none, .mv (.t 0)⟩, ⟨some 9, none, .len (.t 8)⟩, ⟨some 10, none, .mv (.c (.int .i64 0))⟩]) (.block 0 (.loop (.seq (.reg [⟨some 11, none, .bin .lss (.t 10) (.t 9)⟩]) (.seq (.cond (.t 11) .skip (.exit 0)) (.seq (.block 1 (.seq (.reg [⟨some 12, none, .ixa (.t 8) (.t 10) 1⟩, ⟨some 13, none, .ld (.t 12) 1 false⟩, ⟨some 4, none, .mv (.t 13)⟩]) (.seq (.reg [⟨some 14, none, .mv (.t 4)⟩, ⟨some 15, none, .bin .lss (.t 14) (.c (.int .i64 (-200)))⟩, ⟨some 16, none, .mv (.t 15)⟩, ⟨some 17, some (16, false), .mv (.t 4)⟩, ⟨some 18, some (16, false), .bin .gtr (.t 17) (.c (.int .i64 200))⟩, ⟨some 19, none, .pick (.t 16) (.c (.bool true)) (.t 18)⟩]) (.cond (.t 19) (.seq (.reg [⟨some 2, none, .mv (.c (.bool false))⟩]) .ret) .skip)))) (.reg [⟨some 20, none, .bin .add (.t 10) (.c (.int .i64 1))⟩, ⟨some 10, none, .mv (.t 20)⟩]))))))) (.seq (.reg [⟨some 2, none, .mv (.c (.bool true))⟩]) .ret)))
theorem code_impl_ValidData : HasCode Try.prog fn_impl_ValidData mc_impl_ValidData [.t 2] 21 := ⟨mixed, Try.f21, _, Try.func21, rfl, by kernel_rfl, by kernel_rfl, rfl, by kernel_rfl⟩

def mc_laws_eqIntS : MC :=
  .seq (.reg [⟨some 4, none, .mv (.c (.bool false))⟩]) (.seq (.seq (.reg [⟨some 6, none, .mv (.t 0)⟩, ⟨some 7, none, .len (.t 6)⟩, ⟨some 8, none, .mv (.t 1)⟩, ⟨some 9, none, .len (.t 8)⟩, ⟨some 10, none, .bin .neq (.t 7) (.t 9)⟩]) (.cond (.t 10) (.seq (.reg [⟨some 4, none, .mv (.c (.bool false))⟩]) .ret) .skip)) (.seq (.seq (.reg [⟨some 5, none, .mv (.c (.int .i64 0))⟩]) (.block 0 (.loop (.seq (.seq (.reg [⟨some 11, none, .mv (.t 5)⟩, ⟨some 12, none, .mv (.t 0)⟩, ⟨some 13, none, .len (.t 12)⟩, ⟨some 14, none, .bin .lss (.t 11) (.t 13)⟩]) (.cond (.t 14) .skip (.exit 0))) (.seq (.block 1 (.seq (.drq [⟨some 17, none, .mv (.t 0)⟩, ⟨some 18, none, .mv (.t 5)⟩, ⟨some 19, none, .ixa (.t 17) (.t 18) 1⟩, ⟨some 20, none, .ld (.t 19) 1 false⟩, ⟨some 21, none, .mv (.t 1)⟩, ⟨some 22, none, .mv (.t 5)⟩, ⟨some 23, none, .ixa (.t 21) (.t 22) 1⟩, ⟨some 24, none, .ld (.t 23) 1 false⟩, ⟨some 25, none, .bin .neq (.t 20) (.t 24)⟩]) (.cond (.t 25) (.seq (.reg [⟨some 4, none, .mv (.c (.bool false))⟩]) .ret) .skip))) (.reg [⟨some 15, none, .mv (.t 5)⟩, ⟨some 16, none, .bin .add (.t 15) (.c (.int .i64 1))⟩, ⟨some 5, none, .mv (.t 16)⟩])))))) (.seq (.reg [⟨some 4, none, .mv (.c (.bool true))⟩]) .ret)))
theorem code_laws_eqIntS : HasCode Try.prog fn_laws_eqIntS mc_laws_eqIntS [.t 4] 26 := ⟨mixed, Try.f22, _, Try.func22, rfl, by kernel_rfl, by kernel_rfl, rfl, by kernel_rfl⟩

def mc_laws_markIntS : MC :=
  .seq (.reg [⟨some 4, none, .mv (.c (.int .i64 0))⟩]) (.seq (.seq (.reg [⟨some 5, none, .mv (.c (.int .i64 0))⟩]) (.block 0 (.loop (.seq (.seq (.reg [⟨some 6, none, .mv (.t 5)⟩, ⟨some 7, none, .mv (.t 0)⟩, ⟨some 8, none, .len (.t 7)⟩, ⟨some 9, none, .bin .lss (.t 6) (.t 8)⟩]) (.cond (.t 9) .skip (.exit 0))) (.seq (.block 1 (.seq (.reg [⟨some 12, none, .mv (.t 0)⟩, ⟨some 13, none, .mv (.t 5)⟩, ⟨some 14, none, .mv (.t 1)⟩, ⟨some 15, none, .ixa (.t 12) (.t 13) 1⟩, ⟨none, none, .st (.t 15) (.t 14) 1⟩]) (.reg [⟨some 16, none, .mv (.t 1)⟩, ⟨some 17, none, .bin .add (.t 16) (.c (.int .i64 1))⟩, ⟨some 1, none, .mv (.t 17)⟩]))) (.reg [⟨some 10, none, .mv (.t 5)⟩, ⟨some 11, none, .bin .add (.t 10) (.c (.int .i64 1))⟩, ⟨some 5, none, .mv (.t 11)⟩])))))) (.seq (.reg [⟨some 18, none, .mv (.t 1)⟩, ⟨some 4, none, .mv (.t 18)⟩]) .ret))
theorem code_laws_markIntS : HasCode Try.prog fn_laws_markIntS mc_laws_markIntS [.t 4] 19 := ⟨mixed, Try.f25, _, Try.func25, rfl, by kernel_rfl, by kernel_rfl, rfl, by kernel_rfl⟩

def mc_laws_heldIntS : MC :=
  .seq (.reg [⟨some 4, none, .mv (.c (.int .i64 0))⟩]) (.seq (.seq (.reg [⟨some 5, none, .mv (.c (.int .i64 0))⟩]) (.block 0 (.loop (.seq (.seq (.reg [⟨some 6, none, .mv (.t 5)⟩, ⟨some 7, none, .mv (.t 0)⟩, ⟨some 8, none, .len (.t 7)⟩, ⟨some 9, none, .bin .lss (.t 6) (.t 8)⟩]) (.cond (.t 9) .skip (.exit 0))) (.seq (.block 1 (.seq (.seq (.reg [⟨some 12, none, .mv (.t 0)⟩, ⟨some 13, none, .mv (.t 5)⟩, ⟨some 14, none, .ixa (.t 12) (.t 13) 1⟩, ⟨some 15, none, .ld (.t 14) 1 false⟩, ⟨some 16, none, .mv (.t 1)⟩, ⟨some 17, none, .bin .neq (.t 15) (.t 16)⟩]) (.cond (.t 17) (.seq (.reg [⟨some 4, none, .mv (.c (.int .i64 (-1)))⟩]) .ret) .skip)) (.reg [⟨some 18, none, .mv (.t 1)⟩, ⟨some 19, none, .bin .add (.t 18) (.c (.int .i64 1))⟩, ⟨some 1, none, .mv (.t 19)⟩]))) (.reg [⟨some 10, none, .mv (.t 5)⟩, ⟨some 11, none, .bin .add (.t 10) (.c (.int .i64 1))⟩, ⟨some 5, none, .mv (.t 11)⟩])))))) (.seq (.reg [⟨some 20, none, .mv (.t 1)⟩, ⟨some 4, none, .mv (.t 20)⟩]) .ret))
theorem code_laws_heldIntS : HasCode Try.prog fn_laws_heldIntS mc_laws_heldIntS [.t 4] 21 := ⟨mixed, Try.f26, _, Try.func26, rfl, by kernel_rfl, by kernel_rfl, rfl, by kernel_rfl⟩

def mc_spec_FallCounts : MC :=
  .seq (.reg [⟨some 2, none, .mv (.c .nilSlice)⟩]) (.seq (.seq (.reg [⟨some 3, none, .mv (.t 0)⟩, ⟨some 4, none, .call fn_spec_inRange [.t 3, .c (.int .i64 1), .c (.int .i64 10)]⟩, ⟨some 5, none, .un .not (.t 4)⟩]) (.cond (.t 5) (.seq (.reg [⟨some 2, none, .mv (.c .nilSlice)⟩]) .ret) .skip)) (.seq (.reg [⟨some 6, none, .mv (.t 0)⟩, ⟨some 7, none, .call fn_spec_falls [.t 6]⟩, ⟨some 2, none, .mv (.t 7)⟩]) .ret))
theorem code_spec_FallCounts : HasCode Try.prog fn_spec_FallCounts mc_spec_FallCounts [.t 2] 8 := ⟨mixed, Try.f35, _, Try.func35, rfl, by kernel_rfl, by kernel_rfl, rfl, by kernel_rfl⟩

def mc_impl_FallCounts : MC :=
  .seq (.reg [⟨some 2, none, .mv (.c .nilSlice)⟩]) (.seq (.seq (.reg [⟨some 5, none, .mv (.t 0)⟩, ⟨some 6, none, .bin .lss (.t 5) (.c (.int .i64 1))⟩, ⟨some 7, none, .mv (.t 6)⟩, ⟨some 8, some (7, false), .mv (.t 0)⟩, ⟨some 9, some (7, false), .bin .gtr (.t 8) (.c (.int .i64 10))⟩, ⟨some 10, none, .pick (.t 7) (.c (.bool true)) (.t 9)⟩]) (.cond (.t 10) (.seq (.reg [⟨some 2, none, .mv (.c .nilSlice)⟩]) .ret) .skip)) (.seq (.reg [⟨some 11, none, .bsl 1 1 [.int .i64 0] [(0, .c (.int .i64 1))]⟩, ⟨some 3, none, .mv (.t 11)⟩]) (.seq (.seq (.reg [⟨some 4, none, .mv (.c (.int .i64 1))⟩]) (.block 0 (.loop (.seq (.seq (.reg [⟨some 12, none, .mv (.t 4)⟩, ⟨some 13, none, .mv (.t 0)⟩, ⟨some 14, none, .bin .lss (.t 12) (.t 13)⟩]) (.cond (.t 14) .skip (.exit 0))) (.seq (.block 1 (.reg [⟨some 17, none, .mv (.t 3)⟩, ⟨some 18, none, .mv (.t 4)⟩, ⟨some 19, none, .call fn_impl_withOneMore [.t 17, .t 18]⟩, ⟨some 3, none, .mv (.t 19)⟩])) (.reg [⟨some 15, none, .mv (.t 4)⟩, ⟨some 16, none, .bin .add (.t 15) (.c (.int .i64 1))⟩, ⟨some 4, none, .mv (.t 16)⟩])))))) (.seq (.reg [⟨some 20, none, .mv (.t 3)⟩, ⟨some 2, none, .mv (.t 20)⟩]) .ret))))
theorem code_impl_FallCounts : HasCode Try.prog fn_impl_FallCounts mc_impl_FallCounts [.t 2] 21 := ⟨mixed, Try.f36, _, Try.func36, rfl, by kernel_rfl, by kernel_rfl, rfl, by kernel_rfl⟩

def mc_spec_AgreeChance : MC :=
  .seq (.reg [⟨some 4, none, .mv (.c (.int .i64 0))⟩, ⟨some 5, none, .mv (.c (.int .i64 0))⟩]) (.seq (.seq (.reg [⟨some 10, none, .mv (.t 0)⟩, ⟨some 11, none, .call fn_spec_inRange [.t 10, .c (.int .i64 1), .c (.int .i64 10)]⟩, ⟨some 12, none, .un .not (.t 11)⟩]) (.cond (.t 12) (.seq (.reg [⟨some 4, none, .mv (.c (.int .i64 (-1)))⟩, ⟨some 5, none, .mv (.c (.int .i64 (-1)))⟩]) .ret) .skip)) (.seq (.reg [⟨some 13, none, .mv (.t 0)⟩, ⟨some 14, none, .call fn_spec_falls [.t 13]⟩, ⟨some 6, none, .mv (.t 14)⟩]) (.seq (.reg [⟨some 7, none, .mv (.c (.int .i64 0))⟩]) (.seq (.reg [⟨some 8, none, .mv (.c (.int .i64 0))⟩]) (.seq (.seq (.reg [⟨some 9, none, .mv (.c (.int .i64 0))⟩]) (.block 0 (.loop (.seq (.seq (.reg [⟨some 15, none, .mv (.t 9)⟩, ⟨some 16, none, .mv (.t 6)⟩, ⟨some 17, none, .len (.t 16)⟩, ⟨some 18, none, .bin .lss (.t 15) (.t 17)⟩]) (.cond (.t 18) .skip (.exit 0))) (.seq (.block 1 (.seq (.reg [⟨some 21, none, .mv (.t 8)⟩, ⟨some 22, none, .mv (.t 6)⟩, ⟨some 23, none, .mv (.t 9)⟩, ⟨some 24, none, .ixa (.t 22) (.t 23) 1⟩, ⟨some 25, none, .ld (.t 24) 1 false⟩, ⟨some 26, none, .bin .add (.t 21) (.t 25)⟩, ⟨some 8, none, .mv (.t 26)⟩]) (.seq (.reg [⟨some 27, none, .mv (.t 0)⟩, ⟨some 28, none, .mv (.t 0)⟩, ⟨some 29, none, .bin .sub (.t 28) (.c (.int .i64 1))⟩, ⟨some 30, none, .bin .mul (.t 27) (.t 29)⟩, ⟨some 31, none, .bin .quo (.t 30) (.c (.int .i64 2))⟩, ⟨some 32, none, .mv (.t 9)⟩, ⟨some 33, none, .bin .mul (.c (.int .i64 2)) (.t 32)⟩, ⟨some 34, none, .bin .sub (.t 31) (.t 33)⟩, ⟨some 35, none, .mv (.t 1)⟩, ⟨some 36, none, .bin .geq (.t 34) (.t 35)⟩]) (.cond (.t 36) (.reg [⟨some 37, none, .mv (.t 7)⟩, ⟨some 38, none, .mv (.t 6)⟩, ⟨some 39, none, .mv (.t 9)⟩, ⟨some 40, none, .ixa (.t 38) (.t 39) 1⟩, ⟨some 41, none, .ld (.t 40) 1 false⟩, ⟨some 42, none, .bin .add (.t 37) (.t 41)⟩, ⟨some 7, none, .mv (.t 42)⟩]) .skip)))) (.reg [⟨some 19, none, .mv (.t 9)⟩, ⟨some 20, none, .bin .add (.t 19) (.c (.int .i64 1))⟩, ⟨some 9, none, .mv (.t 20)⟩])))))) (.seq (.reg [⟨some 43, none, .mv (.t 7)⟩, ⟨some 44, none, .mv (.t 8)⟩, ⟨some 4, none, .mv (.t 43)⟩, ⟨some 5, none, .mv (.t 44)⟩]) .ret))))))
theorem code_spec_AgreeChance : HasCode Try.prog fn_spec_AgreeChance mc_spec_AgreeChance [.t 4, .t 5] 45 := ⟨mixed, Try.f37, _, Try.func37, rfl, by kernel_rfl, by kernel_rfl, rfl, by kernel_rfl⟩

def mc_impl_AgreeChance : MC :=
  .seq (.reg [⟨some 4, none, .mv (.c (.int .i64 0))⟩, ⟨some 5, none, .mv (.c (.int .i64 0))⟩]) (.seq (.reg [⟨some 12, none, .mv (.t 0)⟩, ⟨some 13, none, .call fn_impl_FallCounts [.t 12]⟩, ⟨some 6, none, .mv (.t 13)⟩]) (.seq (.seq (.reg [⟨some 14, none, .mv (.t 6)⟩, ⟨some 15, none, .len (.t 14)⟩, ⟨some 16, none, .bin .eql (.t 15) (.c (.int .i64 0))⟩]) (.cond (.t 16) (.seq (.reg [⟨some 4, none, .mv (.c (.int .i64 (-1)))⟩, ⟨some 5, none, .mv (.c (.int .i64 (-1)))⟩]) .ret) .skip)) (.seq (.reg [⟨some 17, none, .mv (.t 6)⟩, ⟨some 18, none, .len (.t 17)⟩, ⟨some 19, none, .bin .sub (.t 18) (.c (.int .i64 1))⟩, ⟨some 7, none, .mv (.t 19)⟩]) (.seq (.reg [⟨some 8, none, .mv (.c (.int .i64 0))⟩, ⟨some 9, none, .mv (.c (.int .i64 0))⟩]) (.seq (.seq (.reg [⟨some 20, none, .mv (.t 6)⟩, ⟨some 21, none, .len (.t 20)⟩, ⟨some 22, none, .mv (.c (.int .i64 0))⟩]) (.block 0 (.loop (.seq (.reg [⟨some 23, none, .bin .lss (.t 22) (.t 21)⟩]) (.seq (.cond (.t 23) .skip (.exit 0)) (.seq (.block 1 (.seq (.reg [⟨some 24, none, .mv (.t 22)⟩, ⟨some 25, none, .ixa (.t 20) (.t 22) 1⟩, ⟨some 26, none, .ld (.t 25) 1 false⟩, ⟨some 10, none, .mv (.t 24)⟩, ⟨some 11, none, .mv (.t 26)⟩]) (.seq (.seq (.reg [⟨some 27, none, .mv (.t 7)⟩, ⟨some 28, none, .mv (.t 10)⟩, ⟨some 29, none, .bin .mul (.c (.int .i64 2)) (.t 28)⟩, ⟨some 30, none, .bin .sub (.t 27) (.t 29)⟩, ⟨some 31, none, .mv (.t 1)⟩, ⟨some 32, none, .bin .geq (.t 30) (.t 31)⟩]) (.cond (.t 32) (.reg [⟨some 33, none, .mv (.t 8)⟩, ⟨some 34, none, .mv (.t 11)⟩, ⟨some 35, none, .bin .add (.t 33) (.t 34)⟩, ⟨some 8, none, .mv (.t 35)⟩]) .skip)) (.reg [⟨some 36, none, .mv (.t 9)⟩, ⟨some 37, none, .mv (.t 11)⟩, ⟨some 38, none, .bin .add (.t 36) (.t 37)⟩, ⟨some 9, none, .mv (.t 38)⟩])))) (.reg [⟨some 39, none, .bin .add (.t 22) (.c (.int .i64 1))⟩, ⟨some 22, none, .mv (.t 39)⟩]))))))) (.seq (.reg [⟨some 40, none, .mv (.t 8)⟩, ⟨some 41, none, .mv (.t 9)⟩, ⟨some 4, none, .mv (.t 40)⟩, ⟨some 5, none, .mv (.t 41)⟩]) .ret))))))
theorem code_impl_AgreeChance : HasCode Try.prog fn_impl_AgreeChance mc_impl_AgreeChance [.t 4, .t 5] 42 := ⟨mixed, Try.f38, _, Try.func38, rfl, by kernel_rfl, by kernel_rfl, rfl, by kernel_rfl⟩

def mc_spec_inRange : MC :=
  .seq (.reg [⟨some 6, none, .mv (.c (.bool false))⟩]) (.seq (.reg [⟨some 7, none, .mv (.t 1)⟩, ⟨some 8, none, .mv (.t 0)⟩, ⟨some 9, none, .bin .leq (.t 7) (.t 8)⟩, ⟨some 10, none, .mv (.t 9)⟩, ⟨some 11, some (10, true), .mv (.t 0)⟩, ⟨some 12, some (10, true), .mv (.t 2)⟩, ⟨some 13, some (10, true), .bin .leq (.t 11) (.t 12)⟩, ⟨some 14, none, .pick (.t 10) (.t 13) (.c (.bool false))⟩, ⟨some 6, none, .mv (.t 14)⟩]) .ret)
theorem code_spec_inRange : HasCode Try.prog fn_spec_inRange mc_spec_inRange [.t 6] 15 := ⟨mixed, Try.f49, _, Try.func49, rfl, by kernel_rfl, by kernel_rfl, rfl, by kernel_rfl⟩

def mc_spec_validData : MC :=
  .seq (.reg [⟨some 2, none, .mv (.c (.bool false))⟩]) (.seq (.seq (.reg [⟨some 3, none, .mv (.c (.int .i64 0))⟩]) (.block 0 (.loop (.seq (.seq (.reg [⟨some 4, none, .mv (.t 3)⟩, ⟨some 5, none, .mv (.t 0)⟩, ⟨some 6, none, .len (.t 5)⟩, ⟨some 7, none, .bin .lss (.t 4) (.t 6)⟩]) (.cond (.t 7) .skip (.exit 0))) (.seq (.block 1 (.seq (.reg [⟨some 10, none, .mv (.t 0)⟩, ⟨some 11, none, .mv (.t 3)⟩, ⟨some 12, none, .ixa (.t 10) (.t 11) 1⟩, ⟨some 13, none, .ld (.t 12) 1 false⟩, ⟨some 14, none, .call fn_spec_inRange [.t 13, .c (.int .i64 (-200)), .c (.int .i64 200)]⟩, ⟨some 15, none, .un .not (.t 14)⟩]) (.cond (.t 15) (.seq (.reg [⟨some 2, none, .mv (.c (.bool false))⟩]) .ret) .skip))) (.reg [⟨some 8, none, .mv (.t 3)⟩, ⟨some 9, none, .bin .add (.t 8) (.c (.int .i64 1))⟩, ⟨some 3, none, .mv (.t 9)⟩])))))) (.seq (.reg [⟨some 16, none, .mv (.t 0)⟩, ⟨some 17, none, .len (.t 16)⟩, ⟨some 18, none, .bin .leq (.t 17) (.c (.int .i64 10))⟩, ⟨some 2, none, .mv (.t 18)⟩]) .ret))
theorem code_spec_validData : HasCode Try.prog fn_spec_validData mc_spec_validData [.t 2] 19 := ⟨mixed, Try.f51, _, Try.func51, rfl, by kernel_rfl, by kernel_rfl, rfl, by kernel_rfl⟩

def mc_spec_ranks : MC :=
  .seq (.reg [⟨some 2, none, .mv (.c .nilSlice)⟩]) (.seq (.reg [⟨some 8, none, .bsl 0 1 [.int .i64 0] []⟩, ⟨some 3, none, .mv (.t 8)⟩]) (.seq (.seq (.reg [⟨some 4, none, .mv (.c (.int .i64 0))⟩]) (.block 0 (.loop (.seq (.seq (.reg [⟨some 9, none, .mv (.t 4)⟩, ⟨some 10, none, .mv (.t 0)⟩, ⟨some 11, none, .len (.t 10)⟩, ⟨some 12, none, .bin .lss (.t 9) (.t 11)⟩]) (.cond (.t 12) .skip (.exit 0))) (.seq (.block 1 (.seq (.reg [⟨some 5, none, .mv (.c (.int .i64 0))⟩]) (.seq (.reg [⟨some 6, none, .mv (.c (.int .i64 0))⟩]) (.seq (.seq (.reg [⟨some 7, none, .mv (.c (.int .i64 0))⟩]) (.block 2 (.loop (.seq (.seq (.reg [⟨some 15, none, .mv (.t 7)⟩, ⟨some 16, none, .mv (.t 0)⟩, ⟨some 17, none, .len (.t 16)⟩, ⟨some 18, none, .bin .lss (.t 15) (.t 17)⟩]) (.cond (.t 18) .skip (.exit 2))) (.seq (.block 3 (.seq (.seq (.drq [⟨some 21, none, .mv (.t 0)⟩, ⟨some 22, none, .mv (.t 7)⟩, ⟨some 23, none, .ixa (.t 21) (.t 22) 1⟩, ⟨some 24, none, .ld (.t 23) 1 false⟩, ⟨some 25, none, .mv (.t 0)⟩, ⟨some 26, none, .mv (.t 4)⟩, ⟨some 27, none, .ixa (.t 25) (.t 26) 1⟩, ⟨some 28, none, .ld (.t 27) 1 false⟩, ⟨some 29, none, .bin .lss (.t 24) (.t 28)⟩]) (.cond (.t 29) (.reg [⟨some 30, none, .mv (.t 5)⟩, ⟨some 31, none, .bin .add (.t 30) (.c (.int .i64 1))⟩, ⟨some 5, none, .mv (.t 31)⟩]) .skip)) (.seq (.drq [⟨some 32, none, .mv (.t 0)⟩, ⟨some 33, none, .mv (.t 7)⟩, ⟨some 34, none, .ixa (.t 32) (.t 33) 1⟩, ⟨some 35, none, .ld (.t 34) 1 false⟩, ⟨some 36, none, .mv (.t 0)⟩, ⟨some 37, none, .mv (.t 4)⟩, ⟨some 38, none, .ixa (.t 36) (.t 37) 1⟩, ⟨some 39, none, .ld (.t 38) 1 false⟩, ⟨some 40, none, .bin .eql (.t 35) (.t 39)⟩]) (.cond (.t 40) (.reg [⟨some 41, none, .mv (.t 6)⟩, ⟨some 42, none, .bin .add (.t 41) (.c (.int .i64 1))⟩, ⟨some 6, none, .mv (.t 42)⟩]) .skip)))) (.reg [⟨some 19, none, .mv (.t 7)⟩, ⟨some 20, none, .bin .add (.t 19) (.c (.int .i64 1))⟩, ⟨some 7, none, .mv (.t 20)⟩])))))) (.reg [⟨some 43, none, .mv (.t 3)⟩, ⟨some 44, none, .mv (.t 5)⟩, ⟨some 45, none, .bin .mul (.c (.int .i64 2)) (.t 44)⟩, ⟨some 46, none, .mv (.t 6)⟩, ⟨some 47, none, .bin .add (.t 45) (.t 46)⟩, ⟨some 48, none, .bin .add (.t 47) (.c (.int .i64 1))⟩, ⟨some 49, none, .bsl 1 1 [.int .i64 0] [(0, .t 48)]⟩, ⟨some 50, none, .app (.t 43) (.t 49) 1 8⟩, ⟨some 3, none, .mv (.t 50)⟩]))))) (.reg [⟨some 13, none, .mv (.t 4)⟩, ⟨some 14, none, .bin .add (.t 13) (.c (.int .i64 1))⟩, ⟨some 4, none, .mv (.t 14)⟩])))))) (.seq (.reg [⟨some 51, none, .mv (.t 3)⟩, ⟨some 2, none, .mv (.t 51)⟩]) .ret)))
theorem code_spec_ranks : HasCode Try.prog fn_spec_ranks mc_spec_ranks [.t 2] 52 := ⟨mixed, Try.f52, _, Try.func52, rfl, by kernel_rfl, by kernel_rfl, rfl, by kernel_rfl⟩

def mc_impl_twiceRanks : MC :=
  .seq (.reg [⟨some 2, none, .mv (.c .nilSlice)⟩]) (.seq (.reg [⟨some 10, none, .mv (.t 0)⟩, ⟨some 11, none, .len (.t 10)⟩, ⟨some 12, none, .mks (.t 11) (.t 11) [.int .i64 0] 1 8⟩, ⟨some 3, none, .mv (.t 12)⟩]) (.seq (.seq (.reg [⟨some 13, none, .mv (.t 0)⟩, ⟨some 14, none, .len (.t 13)⟩, ⟨some 15, none, .mv (.c (.int .i64 0))⟩]) (.block 0 (.loop (.seq (.reg [⟨some 16, none, .bin .lss (.t 15) (.t 14)⟩]) (.seq (.cond (.t 16) .skip (.exit 0)) (.seq (.block 1 (.seq (.reg [⟨some 17, none, .mv (.t 15)⟩, ⟨some 18, none, .ixa (.t 13) (.t 15) 1⟩, ⟨some 19, none, .ld (.t 18) 1 false⟩, ⟨some 4, none, .mv (.t 17)⟩, ⟨some 5, none, .mv (.t 19)⟩]) (.seq (.reg [⟨some 6, none, .mv (.c (.int .i64 0))⟩, ⟨some 7, none, .mv (.c (.int .i64 0))⟩]) (.seq (.seq (.reg [⟨some 20, none, .mv (.t 0)⟩, ⟨some 21, none, .len (.t 20)⟩, ⟨some 22, none, .mv (.c (.int .i64 0))⟩]) (.block 2 (.loop (.seq (.reg [⟨some 23, none, .bin .lss (.t 22) (.t 21)⟩]) (.seq (.cond (.t 23) .skip (.exit 2)) (.seq (.block 3 (.seq (.reg [⟨some 24, none, .ixa (.t 20) (.t 22) 1⟩, ⟨some 25, none, .ld (.t 24) 1 false⟩, ⟨some 9, none, .mv (.t 25)⟩]) (.seq (.reg [⟨some 26, none, .mv (.t 9)⟩, ⟨some 27, none, .mv (.t 5)⟩, ⟨some 28, none, .bin .lss (.t 26) (.t 27)⟩]) (.cond (.t 28) (.reg [⟨some 29, none, .mv (.t 6)⟩, ⟨some 30, none, .bin .add (.t 29) (.c (.int .i64 1))⟩, ⟨some 6, none, .mv (.t 30)⟩]) (.seq (.reg [⟨some 31, none, .mv (.t 9)⟩, ⟨some 32, none, .mv (.t 5)⟩, ⟨some 33, none, .bin .eql (.t 31) (.t 32)⟩]) (.cond (.t 33) (.reg [⟨some 34, none, .mv (.t 7)⟩, ⟨some 35, none, .bin .add (.t 34) (.c (.int .i64 1))⟩, ⟨some 7, none, .mv (.t 35)⟩]) .skip)))))) (.reg [⟨some 36, none, .bin .add (.t 22) (.c (.int .i64 1))⟩, ⟨some 22, none, .mv (.t 36)⟩]))))))) (.reg [⟨some 37, none, .mv (.t 3)⟩, ⟨some 38, none, .mv (.t 4)⟩, ⟨some 39, none, .mv (.t 6)⟩, ⟨some 40, none, .bin .mul (.c (.int .i64 2)) (.t 39)⟩, ⟨some 41, none, .mv (.t 7)⟩, ⟨some 42, none, .bin .add (.t 40) (.t 41)⟩, ⟨some 43, none, .bin .add (.t 42) (.c (.int .i64 1))⟩, ⟨some 44, none, .ixa (.t 37) (.t 38) 1⟩, ⟨none, none, .st (.t 44) (.t 43) 1⟩]))))) (.reg [⟨some 45, none, .bin .add (.t 15) (.c (.int .i64 1))⟩, ⟨some 15, none, .mv (.t 45)⟩]))))))) (.seq (.reg [⟨some 46, none, .mv (.t 3)⟩, ⟨some 2, none, .mv (.t 46)⟩]) .ret)))
theorem code_impl_twiceRanks : HasCode Try.prog fn_impl_twiceRanks mc_impl_twiceRanks [.t 2] 47 := ⟨mixed, Try.f53, _, Try.func53, rfl, by kernel_rfl, by kernel_rfl, rfl, by kernel_rfl⟩

def mc_spec_validTwo : MC :=
  .seq (.reg [⟨some 4, none, .mv (.c (.bool false))⟩]) (.seq (.reg [⟨some 5, none, .mv (.t 0)⟩, ⟨some 6, none, .call fn_spec_validData [.t 5]⟩, ⟨some 7, none, .mv (.t 6)⟩, ⟨some 8, some (7, true), .mv (.t 1)⟩, ⟨some 9, some (7, true), .call fn_spec_validData [.t 8]⟩, ⟨some 10, none, .pick (.t 7) (.t 9) (.c (.bool false))⟩, ⟨some 11, none, .mv (.t 10)⟩, ⟨some 12, some (11, true), .mv (.t 0)⟩, ⟨some 13, some (11, true), .len (.t 12)⟩, ⟨some 14, some (11, true), .mv (.t 1)⟩, ⟨some 15, some (11, true), .len (.t 14)⟩, ⟨some 16, some (11, true), .bin .eql (.t 13) (.t 15)⟩, ⟨some 17, none, .pick (.t 11) (.t 16) (.c (.bool false))⟩, ⟨some 4, none, .mv (.t 17)⟩]) .ret)
theorem code_spec_validTwo : HasCode Try.prog fn_spec_validTwo mc_spec_validTwo [.t 4] 18 := ⟨mixed, Try.f57, _, Try.func57, rfl, by kernel_rfl, by kernel_rfl, rfl, by kernel_rfl⟩

def mc_impl_validPair : MC :=
  .seq (.reg [⟨some 4, none, .mv (.c (.bool false))⟩]) (.seq (.reg [⟨some 5, none, .mv (.t 0)⟩, ⟨some 6, none, .call fn_impl_ValidData [.t 5]⟩, ⟨some 7, none, .mv (.t 6)⟩, ⟨some 8, some (7, true), .mv (.t 1)⟩, ⟨some 9, some (7, true), .call fn_impl_ValidData [.t 8]⟩, ⟨some 10, none, .pick (.t 7) (.t 9) (.c (.bool false))⟩, ⟨some 11, none, .mv (.t 10)⟩, ⟨some 12, some (11, true), .mv (.t 0)⟩, ⟨some 13, some (11, true), .len (.t 12)⟩, ⟨some 14, some (11, true), .mv (.t 1)⟩, ⟨some 15, some (11, true), .len (.t 14)⟩, ⟨some 16, some (11, true), .bin .eql (.t 13) (.t 15)⟩, ⟨some 17, none, .pick (.t 11) (.t 16) (.c (.bool false))⟩, ⟨some 4, none, .mv (.t 17)⟩]) .ret)
theorem code_impl_validPair : HasCode Try.prog fn_impl_validPair mc_impl_validPair [.t 4] 18 := ⟨mixed, Try.f59, _, Try.func59, rfl, by kernel_rfl, by kernel_rfl, rfl, by kernel_rfl⟩

def mc_spec_falls : MC :=
  .seq (.reg [⟨some 2, none, .mv (.c .nilSlice)⟩]) (.seq (.reg [⟨some 8, none, .bsl 1 1 [.int .i64 0] [(0, .c (.int .i64 1))]⟩, ⟨some 3, none, .mv (.t 8)⟩]) (.seq (.seq (.reg [⟨some 4, none, .mv (.c (.int .i64 2))⟩]) (.block 0 (.loop (.seq (.seq (.reg [⟨some 9, none, .mv (.t 4)⟩, ⟨some 10, none, .mv (.t 0)⟩, ⟨some 11, none, .bin .leq (.t 9) (.t 10)⟩]) (.cond (.t 11) .skip (.exit 0))) (.seq (.block 1 (.seq (.reg [⟨some 14, none, .mv (.t 3)⟩, ⟨some 15, none, .len (.t 14)⟩, ⟨some 16, none, .mv (.t 4)⟩, ⟨some 17, none, .bin .add (.t 15) (.t 16)⟩, ⟨some 18, none, .bin .sub (.t 17) (.c (.int .i64 1))⟩, ⟨some 19, none, .mks (.t 18) (.t 18) [.int .i64 0] 1 8⟩, ⟨some 5, none, .mv (.t 19)⟩]) (.seq (.seq (.reg [⟨some 6, none, .mv (.c (.int .i64 0))⟩]) (.block 2 (.loop (.seq (.seq (.reg [⟨some 20, none, .mv (.t 6)⟩, ⟨some 21, none, .mv (.t 3)⟩, ⟨some 22, none, .len (.t 21)⟩, ⟨some 23, none, .bin .lss (.t 20) (.t 22)⟩]) (.cond (.t 23) .skip (.exit 2))) (.seq (.block 3 (.seq (.reg [⟨some 7, none, .mv (.c (.int .i64 0))⟩]) (.block 4 (.loop (.seq (.seq (.reg [⟨some 26, none, .mv (.t 7)⟩, ⟨some 27, none, .mv (.t 4)⟩, ⟨some 28, none, .bin .lss (.t 26) (.t 27)⟩]) (.cond (.t 28) .skip (.exit 4))) (.seq (.block 5 (.drw [⟨some 31, none, .mv (.t 5)⟩, ⟨some 32, none, .mv (.t 6)⟩, ⟨some 33, none, .mv (.t 7)⟩, ⟨some 34, none, .bin .add (.t 32) (.t 33)⟩, ⟨some 35, none, .mv (.t 5)⟩, ⟨some 36, none, .mv (.t 6)⟩, ⟨some 37, none, .mv (.t 7)⟩, ⟨some 38, none, .bin .add (.t 36) (.t 37)⟩, ⟨some 39, none, .ixa (.t 35) (.t 38) 1⟩, ⟨some 40, none, .ld (.t 39) 1 false⟩, ⟨some 41, none, .mv (.t 3)⟩, ⟨some 42, none, .mv (.t 6)⟩, ⟨some 43, none, .ixa (.t 41) (.t 42) 1⟩, ⟨some 44, none, .ld (.t 43) 1 false⟩, ⟨some 45, none, .bin .add (.t 40) (.t 44)⟩, ⟨some 46, none, .ixa (.t 31) (.t 34) 1⟩, ⟨none, none, .st (.t 46) (.t 45) 1⟩] [])) (.reg [⟨some 29, none, .mv (.t 7)⟩, ⟨some 30, none, .bin .add (.t 29) (.c (.int .i64 1))⟩, ⟨some 7, none, .mv (.t 30)⟩]))))))) (.reg [⟨some 24, none, .mv (.t 6)⟩, ⟨some 25, none, .bin .add (.t 24) (.c (.int .i64 1))⟩, ⟨some 6, none, .mv (.t 25)⟩])))))) (.reg [⟨some 47, none, .mv (.t 5)⟩, ⟨some 3, none, .mv (.t 47)⟩])))) (.reg [⟨some 12, none, .mv (.t 4)⟩, ⟨some 13, none, .bin .add (.t 12) (.c (.int .i64 1))⟩, ⟨some 4, none, .mv (.t 13)⟩])))))) (.seq (.reg [⟨some 48, none, .mv (.t 3)⟩, ⟨some 2, none, .mv (.t 48)⟩]) .ret)))
theorem code_spec_falls : HasCode Try.prog fn_spec_falls mc_spec_falls [.t 2] 49 := ⟨mixed, Try.f63, _, Try.func63, rfl, by kernel_rfl, by kernel_rfl, rfl, by kernel_rfl⟩

def mc_impl_withOneMore : MC :=
  .seq (.reg [⟨some 4, none, .mv (.c .nilSlice)⟩]) (.seq (.reg [⟨some 9, none, .mv (.t 0)⟩, ⟨some 10, none, .len (.t 9)⟩, ⟨some 11, none, .mv (.t 1)⟩, ⟨some 12, none, .bin .add (.t 10) (.t 11)⟩, ⟨some 13, none, .mks (.t 12) (.t 12) [.int .i64 0] 1 8⟩, ⟨some 5, none, .mv (.t 13)⟩]) (.seq (.seq (.reg [⟨some 14, none, .mv (.t 0)⟩, ⟨some 15, none, .len (.t 14)⟩, ⟨some 16, none, .mv (.c (.int .i64 0))⟩]) (.block 0 (.loop (.seq (.reg [⟨some 17, none, .bin .lss (.t 16) (.t 15)⟩]) (.seq (.cond (.t 17) .skip (.exit 0)) (.seq (.block 1 (.seq (.reg [⟨some 18, none, .mv (.t 16)⟩, ⟨some 19, none, .ixa (.t 14) (.t 16) 1⟩, ⟨some 20, none, .ld (.t 19) 1 false⟩, ⟨some 6, none, .mv (.t 18)⟩, ⟨some 7, none, .mv (.t 20)⟩]) (.seq (.reg [⟨some 21, none, .mv (.t 1)⟩, ⟨some 22, none, .bin .add (.t 21) (.c (.int .i64 1))⟩, ⟨some 23, none, .mv (.c (.int .i64 0))⟩]) (.block 2 (.loop (.seq (.reg [⟨some 24, none, .bin .lss (.t 23) (.t 22)⟩]) (.seq (.cond (.t 24) .skip (.exit 2)) (.seq (.block 3 (.seq (.reg [⟨some 25, none, .mv (.t 23)⟩, ⟨some 8, none, .mv (.t 25)⟩]) (.reg [⟨some 26, none, .mv (.t 5)⟩, ⟨some 27, none, .mv (.t 6)⟩, ⟨some 28, none, .mv (.t 8)⟩, ⟨some 29, none, .bin .add (.t 27) (.t 28)⟩, ⟨some 30, none, .ixa (.t 26) (.t 29) 1⟩, ⟨some 31, none, .ld (.t 30) 1 false⟩, ⟨some 32, none, .mv (.t 7)⟩, ⟨some 33, none, .bin .add (.t 31) (.t 32)⟩, ⟨some 34, none, .ixa (.t 26) (.t 29) 1⟩, ⟨none, none, .st (.t 34) (.t 33) 1⟩]))) (.reg [⟨some 35, none, .bin .add (.t 23) (.c (.int .i64 1))⟩, ⟨some 23, none, .mv (.t 35)⟩]))))))))) (.reg [⟨some 36, none, .bin .add (.t 16) (.c (.int .i64 1))⟩, ⟨some 16, none, .mv (.t 36)⟩]))))))) (.seq (.reg [⟨some 37, none, .mv (.t 5)⟩, ⟨some 4, none, .mv (.t 37)⟩]) .ret)))
theorem code_impl_withOneMore : HasCode Try.prog fn_impl_withOneMore mc_impl_withOneMore [.t 4] 38 := ⟨mixed, Try.f64, _, Try.func64, rfl, by kernel_rfl, by kernel_rfl, rfl, by kernel_rfl⟩

end Go.Rx.Try
