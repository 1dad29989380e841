/-
  The code of each function of the program, taken up. Made by a program.
-/
import Derived.Test.YtmjhopdonddpcabProg
import Derived.Test.YtmjhopdonddpcabRxI
import Derived.KernelRfl
namespace Go.Rx.Try
open Go.Proofs
set_option maxRecDepth 100000

abbrev fn_laws_FnRunCount : FuncId := 3
abbrev fn_laws_FnExactValidData : FuncId := 4
abbrev fn_laws_FnExactRanksOf : FuncId := 5
abbrev fn_laws_FnExactTiesOf : FuncId := 6
abbrev fn_laws_FnExactMiddleOf : FuncId := 7
abbrev fn_laws_FnExactAgreeOf : FuncId := 8
abbrev fn_laws_FnExactRankGap : FuncId := 9
abbrev fn_laws_FnExactFallCounts : FuncId := 10
abbrev fn_laws_FnExactAgreeChance : FuncId := 11
abbrev fn_laws_FnExactSplitChance : FuncId := 12
abbrev fn_laws_FnExactWinsOf : FuncId := 13
abbrev fn_laws_FnExactWinCounts : FuncId := 14
abbrev fn_spec_DrawRunCount : FuncId := 15
abbrev fn_impl_RunCount : FuncId := 16
abbrev fn_spec_RunCount : FuncId := 17
abbrev fn_laws_choose : FuncId := 18
abbrev fn_spec_ValidData : FuncId := 19
abbrev fn_laws_toIntS : FuncId := 20
abbrev fn_impl_ValidData : FuncId := 21
abbrev fn_laws_eqIntS : FuncId := 22
abbrev fn_spec_RanksOf : FuncId := 23
abbrev fn_impl_RanksOf : FuncId := 24
abbrev fn_laws_markIntS : FuncId := 25
abbrev fn_laws_heldIntS : FuncId := 26
abbrev fn_spec_TiesOf : FuncId := 27
abbrev fn_impl_TiesOf : FuncId := 28
abbrev fn_spec_MiddleOf : FuncId := 29
abbrev fn_impl_MiddleOf : FuncId := 30
abbrev fn_spec_AgreeOf : FuncId := 31
abbrev fn_impl_AgreeOf : FuncId := 32
abbrev fn_spec_RankGap : FuncId := 33
abbrev fn_impl_RankGap : FuncId := 34
abbrev fn_spec_FallCounts : FuncId := 35
abbrev fn_impl_FallCounts : FuncId := 36
abbrev fn_spec_AgreeChance : FuncId := 37
abbrev fn_impl_AgreeChance : FuncId := 38
abbrev fn_spec_SplitChance : FuncId := 39
abbrev fn_impl_SplitChance : FuncId := 40
abbrev fn_spec_WinsOf : FuncId := 41
abbrev fn_impl_WinsOf : FuncId := 42
abbrev fn_spec_WinCounts : FuncId := 43
abbrev fn_impl_WinCounts : FuncId := 44
abbrev fn_spec_newReader : FuncId := 45
abbrev fn_spec_reader_one : FuncId := 46
abbrev fn_impl_splits : FuncId := 47
abbrev fn_impl_places_has : FuncId := 48
abbrev fn_spec_inRange : FuncId := 49
abbrev fn_spec_choose : FuncId := 50
abbrev fn_spec_validData : FuncId := 51
abbrev fn_spec_ranks : FuncId := 52
abbrev fn_impl_twiceRanks : FuncId := 53
abbrev fn_impl_sortedCopy : FuncId := 54
abbrev fn_spec_middle : FuncId := 55
abbrev fn_impl_twiceMiddle : FuncId := 56
abbrev fn_spec_validTwo : FuncId := 57
abbrev fn_spec_kendall : FuncId := 58
abbrev fn_impl_validPair : FuncId := 59
abbrev fn_impl_AgreeOf_1 : FuncId := 60
abbrev fn_cmp_Compare_int : FuncId := 61
abbrev fn_impl_agreement : FuncId := 62
abbrev fn_spec_falls : FuncId := 63
abbrev fn_impl_withOneMore : FuncId := 64
abbrev fn_spec_validSamples : FuncId := 65
abbrev fn_spec_atLeast : FuncId := 66
abbrev fn_spec_sum : FuncId := 67
abbrev fn_impl_validSamples : FuncId := 68
abbrev fn_slices_Concat_ints : FuncId := 69
abbrev fn_impl_sumAt : FuncId := 70
abbrev fn_impl_firstPlaces : FuncId := 71
abbrev fn_spec_wins : FuncId := 72
abbrev fn_spec_winCounts : FuncId := 73
abbrev fn_impl_winsIn : FuncId := 74
abbrev fn_spec_reader_pick : FuncId := 75
abbrev fn_impl_splits_1 : FuncId := 76
abbrev fn_math_bits_OnesCount : FuncId := 77
abbrev fn_slices_Clone_ints : FuncId := 78
abbrev fn_slices_Sort_ints : FuncId := 79
abbrev fn_spec_sorted : FuncId := 80
abbrev fn_spec_sign : FuncId := 81
abbrev fn_cmp_isNaN_int : FuncId := 82
abbrev fn_slices_Grow_ints : FuncId := 83
abbrev fn_math_bits_OnesCount32 : FuncId := 84
abbrev fn_math_bits_OnesCount64 : FuncId := 85
abbrev fn_slices_pdqsortOrdered_int : FuncId := 86
abbrev fn_math_bits_Len : FuncId := 87
abbrev fn_slices_insertionSortOrdered_int : FuncId := 88
abbrev fn_slices_heapSortOrdered_int : FuncId := 89
abbrev fn_slices_breakPatternsOrdered_int : FuncId := 90
abbrev fn_slices_choosePivotOrdered_int : FuncId := 91
abbrev fn_slices_reverseRangeOrdered_int : FuncId := 92
abbrev fn_slices_partialInsertionSortOrdered_int : FuncId := 93
abbrev fn_cmp_Less_int : FuncId := 94
abbrev fn_slices_partitionEqualOrdered_int : FuncId := 95
abbrev fn_slices_partitionOrdered_int : FuncId := 96
abbrev fn_math_bits_Len32 : FuncId := 97
abbrev fn_math_bits_Len64 : FuncId := 98
abbrev fn_slices_siftDownOrdered_int : FuncId := 99
abbrev fn_slices_nextPowerOfTwo : FuncId := 100
abbrev fn_slices_xorshift_Next : FuncId := 101
abbrev fn_slices_medianAdjacentOrdered_int : FuncId := 102
abbrev fn_slices_medianOrdered_int : FuncId := 103
abbrev fn_slices_order2Ordered_int : FuncId := 104
abbrev fn_runtime_boundsError_Error : FuncId := 105
abbrev fn_runtime_boundsError_RuntimeError : FuncId := 106
abbrev fn_runtime_errorString_Error : FuncId := 107
abbrev fn_runtime_errorString_RuntimeError : FuncId := 108
abbrev fn_runtime_plainError_Error : FuncId := 109
abbrev fn_runtime_plainError_RuntimeError : FuncId := 110
abbrev fn_runtime_errorAddressString_Error : FuncId := 111
abbrev fn_runtime_errorAddressString_RuntimeError : FuncId := 112
abbrev fn_runtime_TypeAssertionError_Error : FuncId := 113
abbrev fn_runtime_TypeAssertionError_RuntimeError : FuncId := 114
abbrev fn_runtime_PanicNilError_Error : FuncId := 115
abbrev fn_runtime_PanicNilError_RuntimeError : FuncId := 116
abbrev fn_internal_abi_Type_Align : FuncId := 117
abbrev fn_internal_runtime_maps_unhashableTypeError_Error : FuncId := 118
abbrev fn_internal_runtime_maps_unhashableTypeError_RuntimeError : FuncId := 119
abbrev fn_internal_abi_Kind_String : FuncId := 120
theorem mixed : Try.prog.follows .mixedOrders = true := by kernel_rfl

def mc_laws_FnExactWinsOf : MC :=
  .seq (.reg [⟨some 4, none, .mv (.c (.bool false))⟩]) (.seq (.seq (.reg [⟨some 9, none, .mv (.t 0)⟩, ⟨some 10, none, .len (.t 9)⟩, ⟨some 11, none, .bin .gtr (.t 10) (.c (.int .i64 1048576))⟩]) (.cond (.t 11) (.seq (.reg [⟨some 4, none, .mv (.c (.bool true))⟩]) .ret) .skip)) (.seq (.seq (.reg [⟨some 12, none, .mv (.t 1)⟩, ⟨some 13, none, .len (.t 12)⟩, ⟨some 14, none, .bin .gtr (.t 13) (.c (.int .i64 1048576))⟩]) (.cond (.t 14) (.seq (.reg [⟨some 4, none, .mv (.c (.bool true))⟩]) .ret) .skip)) (.seq (.reg [⟨some 15, none, .mv (.t 0)⟩, ⟨some 16, none, .call fn_laws_toIntS [.t 15]⟩, ⟨some 17, none, .mv (.t 1)⟩, ⟨some 18, none, .call fn_laws_toIntS [.t 17]⟩, ⟨some 19, none, .call fn_spec_WinsOf [.t 16, .t 18]⟩, ⟨some 5, none, .mv (.t 19)⟩]) (.seq (.reg [⟨some 20, none, .mv (.t 0)⟩, ⟨some 21, none, .call fn_laws_toIntS [.t 20]⟩, ⟨some 6, none, .mv (.t 21)⟩]) (.seq (.reg [⟨some 22, none, .mv (.t 1)⟩, ⟨some 23, none, .call fn_laws_toIntS [.t 22]⟩, ⟨some 7, none, .mv (.t 23)⟩]) (.seq (.reg [⟨some 24, none, .mv (.t 6)⟩, ⟨some 25, none, .mv (.t 7)⟩, ⟨some 26, none, .call fn_impl_WinsOf [.t 24, .t 25]⟩, ⟨some 8, none, .mv (.t 26)⟩]) (.seq (.seq (.reg [⟨some 27, none, .mv (.t 8)⟩, ⟨some 28, none, .mv (.t 5)⟩, ⟨some 29, none, .bin .neq (.t 27) (.t 28)⟩]) (.cond (.t 29) (.seq (.reg [⟨some 4, none, .mv (.c (.bool false))⟩]) .ret) .skip)) (.seq (.seq (.reg [⟨some 30, none, .mv (.t 6)⟩, ⟨some 31, none, .mv (.t 0)⟩, ⟨some 32, none, .call fn_laws_toIntS [.t 31]⟩, ⟨some 33, none, .call fn_laws_eqIntS [.t 30, .t 32]⟩, ⟨some 34, none, .un .not (.t 33)⟩]) (.cond (.t 34) (.seq (.reg [⟨some 4, none, .mv (.c (.bool false))⟩]) .ret) .skip)) (.seq (.seq (.reg [⟨some 35, none, .mv (.t 7)⟩, ⟨some 36, none, .mv (.t 1)⟩, ⟨some 37, none, .call fn_laws_toIntS [.t 36]⟩, ⟨some 38, none, .call fn_laws_eqIntS [.t 35, .t 37]⟩, ⟨some 39, none, .un .not (.t 38)⟩]) (.cond (.t 39) (.seq (.reg [⟨some 4, none, .mv (.c (.bool false))⟩]) .ret) .skip)) (.seq (.reg [⟨some 4, none, .mv (.c (.bool true))⟩]) .ret))))))))))
theorem code_laws_FnExactWinsOf : HasCode Try.prog fn_laws_FnExactWinsOf mc_laws_FnExactWinsOf [.t 4] 40 := ⟨mixed, Try.f13, _, Try.func13, rfl, by kernel_rfl, by kernel_rfl, rfl, by kernel_rfl⟩

def mc_laws_toIntS : MC :=
  .seq (.reg [⟨some 2, none, .mv (.c .nilSlice)⟩]) (.seq (.reg [⟨some 5, none, .mv (.t 0)⟩, ⟨some 6, none, .len (.t 5)⟩, ⟨some 7, none, .mks (.t 6) (.t 6) [.int .i64 0] 1 8⟩, ⟨some 3, none, .mv (.t 7)⟩]) (.seq (.seq (.reg [⟨some 4, none, .mv (.c (.int .i64 0))⟩]) (.block 0 (.loop (.seq (.seq (.reg [⟨some 8, none, .mv (.t 4)⟩, ⟨some 9, none, .mv (.t 0)⟩, ⟨some 10, none, .len (.t 9)⟩, ⟨some 11, none, .bin .lss (.t 8) (.t 10)⟩]) (.cond (.t 11) .skip (.exit 0))) (.seq (.block 1 (.reg [⟨some 14, none, .mv (.t 3)⟩, ⟨some 15, none, .mv (.t 4)⟩, ⟨some 16, none, .mv (.t 0)⟩, ⟨some 17, none, .mv (.t 4)⟩, ⟨some 18, none, .ixa (.t 16) (.t 17) 1⟩, ⟨some 19, none, .ld (.t 18) 1 false⟩, ⟨some 20, none, .ixa (.t 14) (.t 15) 1⟩, ⟨none, none, .st (.t 20) (.t 19) 1⟩])) (.reg [⟨some 12, none, .mv (.t 4)⟩, ⟨some 13, none, .bin .add (.t 12) (.c (.int .i64 1))⟩, ⟨some 4, none, .mv (.t 13)⟩])))))) (.seq (.reg [⟨some 21, none, .mv (.t 3)⟩, ⟨some 2, none, .mv (.t 21)⟩]) .ret)))
theorem code_laws_toIntS : HasCode Try.prog fn_laws_toIntS mc_laws_toIntS [.t 2] 22 := ⟨mixed, Try.f20, _, Try.func20, rfl, by kernel_rfl, by kernel_rfl, rfl, by kernel_rfl⟩

def mc_impl_ValidData : MC :=
  .seq (.reg [⟨some 2, none, .mv (.c (.bool false))⟩]) (.seq (.seq (.reg [⟨some 5, none, .mv (.t 0)⟩, ⟨some 6, none, .len (.t 5)⟩, ⟨some 7, none, .bin .gtr (.t 6) (.c (.int .i64 10))⟩]) (.cond (.t 7) (.seq (.reg [⟨some 2, none, .mv (.c (.bool false))⟩]) .ret) .skip)) (.seq (.seq (.reg [⟨some 8, none, .mv (.t 0)⟩, ⟨some 9, none, .len (.t 8)⟩, ⟨some 10, none, .mv (.c (.int .i64 0))⟩]) (.block 0 (.loop (.seq (.reg [⟨some 11, none, .bin .lss (.t 10) (.t 9)⟩]) (.seq (.cond (.t 11) .skip (.exit 0)) (.seq (.block 1 (.seq (.reg [⟨some 12, none, .ixa (.t 8) (.t 10) 1⟩, ⟨some 13, none, .ld (.t 12) 1 false⟩, ⟨some 4, none, .mv (.t 13)⟩]) (.seq (.reg [⟨some 14, none, .mv (.t 4)⟩, ⟨some 15, none, .bin .lss (.t 14) (.c (.int .i64 (-200)))⟩, ⟨some 16, none, .mv (.t 15)⟩, ⟨some 17, some (16, false), .mv (.t 4)⟩, ⟨some 18, some (16, false), .bin .gtr (.t 17) (.c (.int .i64 200))⟩, ⟨some 19, none, .pick (.t 16) (.c (.bool true)) (.t 18)⟩]) (.cond (.t 19) (.seq (.reg [⟨some 2, none, .mv (.c (.bool false))⟩]) .ret) .skip)))) (.reg [⟨some 20, none, .bin .add (.t 10) (.c (.int .i64 1))⟩, ⟨some 10, none, .mv (.t 20)⟩]))))))) (.seq (.reg [⟨some 2, none, .mv (.c (.bool true))⟩]) .ret)))
theorem code_impl_ValidData : HasCode Try.prog fn_impl_ValidData mc_impl_ValidData [.t 2] 21 := ⟨mixed, Try.f21, _, Try.func21, rfl, by kernel_rfl, by kernel_rfl, rfl, by kernel_rfl⟩

def mc_laws_eqIntS : MC :=
  .seq (.reg [⟨some 4, none, .mv (.c (.bool false))⟩]) (.seq (.seq (.reg [⟨some 6, none, .mv (.t 0)⟩, ⟨some 7, none, .len (.t 6)⟩, ⟨some 8, none, .mv (.t 1)⟩, ⟨some 9, none, .len (.t 8)⟩, ⟨some 10, none, .bin .neq (.t 7) (.t 9)⟩]) (.cond (.t 10) (.seq (.reg [⟨some 4, none, .mv (.c (.bool false))⟩]) .ret) .skip)) (.seq (.seq (.reg [⟨some 5, none, .mv (.c (.int .i64 0))⟩]) (.block 0 (.loop (.seq (.seq (.reg [⟨some 11, none, .mv (.t 5)⟩, ⟨some 12, none, .mv (.t 0)⟩, ⟨some 13, none, .len (.t 12)⟩, ⟨some 14, none, .bin .lss (.t 11) (.t 13)⟩]) (.cond (.t 14) .skip (.exit 0))) (.seq (.block 1 (.seq (.drq [⟨some 17, none, .mv (.t 0)⟩, ⟨some 18, none, .mv (.t 5)⟩, ⟨some 19, none, .ixa (.t 17) (.t 18) 1⟩, ⟨some 20, none, .ld (.t 19) 1 false⟩, ⟨some 21, none, .mv (.t 1)⟩, ⟨some 22, none, .mv (.t 5)⟩, ⟨some 23, none, .ixa (.t 21) (.t 22) 1⟩, ⟨some 24, none, .ld (.t 23) 1 false⟩, ⟨some 25, none, .bin .neq (.t 20) (.t 24)⟩]) (.cond (.t 25) (.seq (.reg [⟨some 4, none, .mv (.c (.bool false))⟩]) .ret) .skip))) (.reg [⟨some 15, none, .mv (.t 5)⟩, ⟨some 16, none, .bin .add (.t 15) (.c (.int .i64 1))⟩, ⟨some 5, none, .mv (.t 16)⟩])))))) (.seq (.reg [⟨some 4, none, .mv (.c (.bool true))⟩]) .ret)))
theorem code_laws_eqIntS : HasCode Try.prog fn_laws_eqIntS mc_laws_eqIntS [.t 4] 26 := ⟨mixed, Try.f22, _, Try.func22, rfl, by kernel_rfl, by kernel_rfl, rfl, by kernel_rfl⟩

def mc_spec_WinsOf : MC :=
  .seq (.reg [⟨some 4, none, .mv (.c (.int .i64 0))⟩]) (.seq (.seq (.reg [⟨some 5, none, .mv (.t 0)⟩, ⟨some 6, none, .mv (.t 1)⟩, ⟨some 7, none, .call fn_spec_validSamples [.t 5, .t 6]⟩, ⟨some 8, none, .un .not (.t 7)⟩]) (.cond (.t 8) (.seq (.reg [⟨some 4, none, .mv (.c (.int .i64 (-1)))⟩]) .ret) .skip)) (.seq (.reg [⟨some 9, none, .mv (.t 0)⟩, ⟨some 10, none, .mv (.t 1)⟩, ⟨some 11, none, .call fn_spec_wins [.t 9, .t 10]⟩, ⟨some 4, none, .mv (.t 11)⟩]) .ret))
theorem code_spec_WinsOf : HasCode Try.prog fn_spec_WinsOf mc_spec_WinsOf [.t 4] 12 := ⟨mixed, Try.f41, _, Try.func41, rfl, by kernel_rfl, by kernel_rfl, rfl, by kernel_rfl⟩

def mc_impl_WinsOf : MC :=
  .seq (.reg [⟨some 4, none, .mv (.c (.int .i64 0))⟩]) (.seq (.seq (.reg [⟨some 10, none, .mv (.t 0)⟩, ⟨some 11, none, .mv (.t 1)⟩, ⟨some 12, none, .call fn_impl_validSamples [.t 10, .t 11]⟩, ⟨some 13, none, .un .not (.t 12)⟩]) (.cond (.t 13) (.seq (.reg [⟨some 4, none, .mv (.c (.int .i64 (-1)))⟩]) .ret) .skip)) (.seq (.reg [⟨some 5, none, .mv (.c (.int .i64 0))⟩]) (.seq (.seq (.reg [⟨some 14, none, .mv (.t 0)⟩, ⟨some 15, none, .len (.t 14)⟩, ⟨some 16, none, .mv (.c (.int .i64 0))⟩]) (.block 0 (.loop (.seq (.reg [⟨some 17, none, .bin .lss (.t 16) (.t 15)⟩]) (.seq (.cond (.t 17) .skip (.exit 0)) (.seq (.block 1 (.seq (.reg [⟨some 18, none, .ixa (.t 14) (.t 16) 1⟩, ⟨some 19, none, .ld (.t 18) 1 false⟩, ⟨some 7, none, .mv (.t 19)⟩]) (.seq (.reg [⟨some 20, none, .mv (.t 1)⟩, ⟨some 21, none, .len (.t 20)⟩, ⟨some 22, none, .mv (.c (.int .i64 0))⟩]) (.block 2 (.loop (.seq (.reg [⟨some 23, none, .bin .lss (.t 22) (.t 21)⟩]) (.seq (.cond (.t 23) .skip (.exit 2)) (.seq (.block 3 (.seq (.reg [⟨some 24, none, .ixa (.t 20) (.t 22) 1⟩, ⟨some 25, none, .ld (.t 24) 1 false⟩, ⟨some 9, none, .mv (.t 25)⟩]) (.seq (.reg [⟨some 26, none, .mv (.t 7)⟩, ⟨some 27, none, .mv (.t 9)⟩, ⟨some 28, none, .bin .gtr (.t 26) (.t 27)⟩]) (.cond (.t 28) (.reg [⟨some 29, none, .mv (.t 5)⟩, ⟨some 30, none, .bin .add (.t 29) (.c (.int .i64 2))⟩, ⟨some 5, none, .mv (.t 30)⟩]) (.seq (.reg [⟨some 31, none, .mv (.t 7)⟩, ⟨some 32, none, .mv (.t 9)⟩, ⟨some 33, none, .bin .eql (.t 31) (.t 32)⟩]) (.cond (.t 33) (.reg [⟨some 34, none, .mv (.t 5)⟩, ⟨some 35, none, .bin .add (.t 34) (.c (.int .i64 1))⟩, ⟨some 5, none, .mv (.t 35)⟩]) .skip)))))) (.reg [⟨some 36, none, .bin .add (.t 22) (.c (.int .i64 1))⟩, ⟨some 22, none, .mv (.t 36)⟩]))))))))) (.reg [⟨some 37, none, .bin .add (.t 16) (.c (.int .i64 1))⟩, ⟨some 16, none, .mv (.t 37)⟩]))))))) (.seq (.reg [⟨some 38, none, .mv (.t 5)⟩, ⟨some 4, none, .mv (.t 38)⟩]) .ret))))
theorem code_impl_WinsOf : HasCode Try.prog fn_impl_WinsOf mc_impl_WinsOf [.t 4] 39 := ⟨mixed, Try.f42, _, Try.func42, rfl, by kernel_rfl, by kernel_rfl, rfl, by kernel_rfl⟩

def mc_spec_inRange : MC :=
  .seq (.reg [⟨some 6, none, .mv (.c (.bool false))⟩]) (.seq (.reg [⟨some 7, none, .mv (.t 1)⟩, ⟨some 8, none, .mv (.t 0)⟩, ⟨some 9, none, .bin .leq (.t 7) (.t 8)⟩, ⟨some 10, none, .mv (.t 9)⟩, ⟨some 11, some (10, true), .mv (.t 0)⟩, ⟨some 12, some (10, true), .mv (.t 2)⟩, ⟨some 13, some (10, true), .bin .leq (.t 11) (.t 12)⟩, ⟨some 14, none, .pick (.t 10) (.t 13) (.c (.bool false))⟩, ⟨some 6, none, .mv (.t 14)⟩]) .ret)
theorem code_spec_inRange : HasCode Try.prog fn_spec_inRange mc_spec_inRange [.t 6] 15 := ⟨mixed, Try.f49, _, Try.func49, rfl, by kernel_rfl, by kernel_rfl, rfl, by kernel_rfl⟩

def mc_spec_validData : MC :=
  .seq (.reg [⟨some 2, none, .mv (.c (.bool false))⟩]) (.seq (.seq (.reg [⟨some 3, none, .mv (.c (.int .i64 0))⟩]) (.block 0 (.loop (.seq (.seq (.reg [⟨some 4, none, .mv (.t 3)⟩, ⟨some 5, none, .mv (.t 0)⟩, ⟨some 6, none, .len (.t 5)⟩, ⟨some 7, none, .bin .lss (.t 4) (.t 6)⟩]) (.cond (.t 7) .skip (.exit 0))) (.seq (.block 1 (.seq (.reg [⟨some 10, none, .mv (.t 0)⟩, ⟨some 11, none, .mv (.t 3)⟩, ⟨some 12, none, .ixa (.t 10) (.t 11) 1⟩, ⟨some 13, none, .ld (.t 12) 1 false⟩, ⟨some 14, none, .call fn_spec_inRange [.t 13, .c (.int .i64 (-200)), .c (.int .i64 200)]⟩, ⟨some 15, none, .un .not (.t 14)⟩]) (.cond (.t 15) (.seq (.reg [⟨some 2, none, .mv (.c (.bool false))⟩]) .ret) .skip))) (.reg [⟨some 8, none, .mv (.t 3)⟩, ⟨some 9, none, .bin .add (.t 8) (.c (.int .i64 1))⟩, ⟨some 3, none, .mv (.t 9)⟩])))))) (.seq (.reg [⟨some 16, none, .mv (.t 0)⟩, ⟨some 17, none, .len (.t 16)⟩, ⟨some 18, none, .bin .leq (.t 17) (.c (.int .i64 10))⟩, ⟨some 2, none, .mv (.t 18)⟩]) .ret))
theorem code_spec_validData : HasCode Try.prog fn_spec_validData mc_spec_validData [.t 2] 19 := ⟨mixed, Try.f51, _, Try.func51, rfl, by kernel_rfl, by kernel_rfl, rfl, by kernel_rfl⟩

def mc_spec_validSamples : MC :=
  .seq (.reg [⟨some 4, none, .mv (.c (.bool false))⟩]) (.seq (.reg [⟨some 5, none, .mv (.t 0)⟩, ⟨some 6, none, .call fn_spec_validData [.t 5]⟩, ⟨some 7, none, .mv (.t 6)⟩, ⟨some 8, some (7, true), .mv (.t 1)⟩, ⟨some 9, some (7, true), .call fn_spec_validData [.t 8]⟩, ⟨some 10, none, .pick (.t 7) (.t 9) (.c (.bool false))⟩, ⟨some 11, none, .mv (.t 10)⟩, ⟨some 12, some (11, true), .mv (.t 0)⟩, ⟨some 13, some (11, true), .len (.t 12)⟩, ⟨some 14, some (11, true), .mv (.t 1)⟩, ⟨some 15, some (11, true), .len (.t 14)⟩, ⟨some 16, some (11, true), .bin .add (.t 13) (.t 15)⟩, ⟨some 17, some (11, true), .bin .leq (.t 16) (.c (.int .i64 10))⟩, ⟨some 18, none, .pick (.t 11) (.t 17) (.c (.bool false))⟩, ⟨some 19, none, .mv (.t 18)⟩, ⟨some 20, some (19, true), .mv (.t 0)⟩, ⟨some 21, some (19, true), .len (.t 20)⟩, ⟨some 22, some (19, true), .bin .gtr (.t 21) (.c (.int .i64 0))⟩, ⟨some 23, none, .pick (.t 19) (.t 22) (.c (.bool false))⟩, ⟨some 24, none, .mv (.t 23)⟩, ⟨some 25, some (24, true), .mv (.t 1)⟩, ⟨some 26, some (24, true), .len (.t 25)⟩, ⟨some 27, some (24, true), .bin .gtr (.t 26) (.c (.int .i64 0))⟩, ⟨some 28, none, .pick (.t 24) (.t 27) (.c (.bool false))⟩, ⟨some 4, none, .mv (.t 28)⟩]) .ret)
theorem code_spec_validSamples : HasCode Try.prog fn_spec_validSamples mc_spec_validSamples [.t 4] 29 := ⟨mixed, Try.f65, _, Try.func65, rfl, by kernel_rfl, by kernel_rfl, rfl, by kernel_rfl⟩

def mc_impl_validSamples : MC :=
  .seq (.reg [⟨some 4, none, .mv (.c (.bool false))⟩]) (.seq (.reg [⟨some 5, none, .mv (.t 0)⟩, ⟨some 6, none, .len (.t 5)⟩, ⟨some 7, none, .bin .gtr (.t 6) (.c (.int .i64 0))⟩, ⟨some 8, none, .mv (.t 7)⟩, ⟨some 9, some (8, true), .mv (.t 1)⟩, ⟨some 10, some (8, true), .len (.t 9)⟩, ⟨some 11, some (8, true), .bin .gtr (.t 10) (.c (.int .i64 0))⟩, ⟨some 12, none, .pick (.t 8) (.t 11) (.c (.bool false))⟩, ⟨some 13, none, .mv (.t 12)⟩, ⟨some 14, some (13, true), .mv (.t 0)⟩, ⟨some 15, some (13, true), .len (.t 14)⟩, ⟨some 16, some (13, true), .mv (.t 1)⟩, ⟨some 17, some (13, true), .len (.t 16)⟩, ⟨some 18, some (13, true), .bin .add (.t 15) (.t 17)⟩, ⟨some 19, some (13, true), .bin .leq (.t 18) (.c (.int .i64 10))⟩, ⟨some 20, none, .pick (.t 13) (.t 19) (.c (.bool false))⟩, ⟨some 21, none, .mv (.t 20)⟩, ⟨some 22, some (21, true), .mv (.t 0)⟩, ⟨some 23, some (21, true), .call fn_impl_ValidData [.t 22]⟩, ⟨some 24, none, .pick (.t 21) (.t 23) (.c (.bool false))⟩, ⟨some 25, none, .mv (.t 24)⟩, ⟨some 26, some (25, true), .mv (.t 1)⟩, ⟨some 27, some (25, true), .call fn_impl_ValidData [.t 26]⟩, ⟨some 28, none, .pick (.t 25) (.t 27) (.c (.bool false))⟩, ⟨some 4, none, .mv (.t 28)⟩]) .ret)
theorem code_impl_validSamples : HasCode Try.prog fn_impl_validSamples mc_impl_validSamples [.t 4] 29 := ⟨mixed, Try.f68, _, Try.func68, rfl, by kernel_rfl, by kernel_rfl, rfl, by kernel_rfl⟩

def mc_spec_wins : MC :=
  .seq (.reg [⟨some 4, none, .mv (.c (.int .i64 0))⟩]) (.seq (.reg [⟨some 5, none, .mv (.c (.int .i64 0))⟩]) (.seq (.seq (.reg [⟨some 6, none, .mv (.c (.int .i64 0))⟩]) (.block 0 (.loop (.seq (.seq (.reg [⟨some 8, none, .mv (.t 6)⟩, ⟨some 9, none, .mv (.t 0)⟩, ⟨some 10, none, .len (.t 9)⟩, ⟨some 11, none, .bin .lss (.t 8) (.t 10)⟩]) (.cond (.t 11) .skip (.exit 0))) (.seq (.block 1 (.seq (.reg [⟨some 7, none, .mv (.c (.int .i64 0))⟩]) (.block 2 (.loop (.seq (.seq (.reg [⟨some 14, none, .mv (.t 7)⟩, ⟨some 15, none, .mv (.t 1)⟩, ⟨some 16, none, .len (.t 15)⟩, ⟨some 17, none, .bin .lss (.t 14) (.t 16)⟩]) (.cond (.t 17) .skip (.exit 2))) (.seq (.block 3 (.drq [⟨some 20, none, .mv (.t 5)⟩, ⟨some 21, none, .mv (.t 0)⟩, ⟨some 22, none, .mv (.t 6)⟩, ⟨some 23, none, .ixa (.t 21) (.t 22) 1⟩, ⟨some 24, none, .ld (.t 23) 1 false⟩, ⟨some 25, none, .mv (.t 1)⟩, ⟨some 26, none, .mv (.t 7)⟩, ⟨some 27, none, .ixa (.t 25) (.t 26) 1⟩, ⟨some 28, none, .ld (.t 27) 1 false⟩, ⟨some 29, none, .bin .sub (.t 24) (.t 28)⟩, ⟨some 30, none, .call fn_spec_sign [.t 29]⟩, ⟨some 31, none, .bin .add (.t 20) (.t 30)⟩, ⟨some 32, none, .bin .add (.t 31) (.c (.int .i64 1))⟩, ⟨some 5, none, .mv (.t 32)⟩])) (.reg [⟨some 18, none, .mv (.t 7)⟩, ⟨some 19, none, .bin .add (.t 18) (.c (.int .i64 1))⟩, ⟨some 7, none, .mv (.t 19)⟩]))))))) (.reg [⟨some 12, none, .mv (.t 6)⟩, ⟨some 13, none, .bin .add (.t 12) (.c (.int .i64 1))⟩, ⟨some 6, none, .mv (.t 13)⟩])))))) (.seq (.reg [⟨some 33, none, .mv (.t 5)⟩, ⟨some 4, none, .mv (.t 33)⟩]) .ret)))
theorem code_spec_wins : HasCode Try.prog fn_spec_wins mc_spec_wins [.t 4] 34 := ⟨mixed, Try.f72, _, Try.func72, rfl, by kernel_rfl, by kernel_rfl, rfl, by kernel_rfl⟩

def mc_spec_sign : MC :=
  .seq (.reg [⟨some 2, none, .mv (.c (.int .i64 0))⟩]) (.seq (.seq (.reg [⟨some 3, none, .mv (.t 0)⟩, ⟨some 4, none, .bin .gtr (.t 3) (.c (.int .i64 0))⟩]) (.cond (.t 4) (.seq (.reg [⟨some 2, none, .mv (.c (.int .i64 1))⟩]) .ret) .skip)) (.seq (.seq (.reg [⟨some 5, none, .mv (.t 0)⟩, ⟨some 6, none, .bin .lss (.t 5) (.c (.int .i64 0))⟩]) (.cond (.t 6) (.seq (.reg [⟨some 2, none, .mv (.c (.int .i64 (-1)))⟩]) .ret) .skip)) (.seq (.reg [⟨some 2, none, .mv (.c (.int .i64 0))⟩]) .ret)))
theorem code_spec_sign : HasCode Try.prog fn_spec_sign mc_spec_sign [.t 2] 7 := ⟨mixed, Try.f81, _, Try.func81, rfl, by kernel_rfl, by kernel_rfl, rfl, by kernel_rfl⟩

end Go.Rx.Try
