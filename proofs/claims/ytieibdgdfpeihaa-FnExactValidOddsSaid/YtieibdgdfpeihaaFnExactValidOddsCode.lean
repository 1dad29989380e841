/-
  The code of each function of the program, taken up. Made by a program.
-/
import Derived.Test.YtieibdgdfpeihaaProg
import Derived.Test.YtieibdgdfpeihaaRxI
import Derived.KernelRfl
namespace Go.Rx.Try
open Go.Proofs
set_option maxRecDepth 100000

abbrev fn_laws_FnValidOdds : FuncId := 3
abbrev fn_laws_FnTimesAll : FuncId := 4
abbrev fn_laws_FnStepDown : FuncId := 5
abbrev fn_laws_FnStepUp : FuncId := 6
abbrev fn_laws_FnFalseShare : FuncId := 7
abbrev fn_laws_FnClosedBy : FuncId := 8
abbrev fn_laws_FnFoundAt : FuncId := 9
abbrev fn_laws_FnExactValidOdds : FuncId := 10
abbrev fn_laws_FnExactTimesAll : FuncId := 11
abbrev fn_laws_FnExactStepDown : FuncId := 12
abbrev fn_laws_FnExactStepUp : FuncId := 13
abbrev fn_laws_FnExactFalseShare : FuncId := 14
abbrev fn_laws_FnExactClosedBy : FuncId := 15
abbrev fn_laws_FnExactFoundAt : FuncId := 16
abbrev fn_spec_DrawValidOdds : FuncId := 17
abbrev fn_impl_ValidOdds : FuncId := 18
abbrev fn_spec_ValidOdds : FuncId := 19
abbrev fn_spec_DrawTimesAll : FuncId := 20
abbrev fn_impl_TimesAll : FuncId := 21
abbrev fn_laws_equalInts : FuncId := 22
abbrev fn_spec_TimesAll : FuncId := 23
abbrev fn_impl_StepDown : FuncId := 24
abbrev fn_impl_StepUp : FuncId := 25
abbrev fn_impl_FalseShare : FuncId := 26
abbrev fn_spec_DrawStepDown : FuncId := 27
abbrev fn_spec_StepDown : FuncId := 28
abbrev fn_impl_FoundAt : FuncId := 29
abbrev fn_impl_ClosedBy : FuncId := 30
abbrev fn_spec_DrawStepUp : FuncId := 31
abbrev fn_spec_StepUp : FuncId := 32
abbrev fn_laws_isIn : FuncId := 33
abbrev fn_spec_DrawFalseShare : FuncId := 34
abbrev fn_spec_FalseShare : FuncId := 35
abbrev fn_laws_greatest : FuncId := 36
abbrev fn_spec_DrawClosedBy : FuncId := 37
abbrev fn_spec_ClosedBy : FuncId := 38
abbrev fn_laws_ascends : FuncId := 39
abbrev fn_spec_DrawFoundAt : FuncId := 40
abbrev fn_spec_FoundAt : FuncId := 41
abbrev fn_laws_toIntS : FuncId := 42
abbrev fn_laws_eqIntS : FuncId := 43
abbrev fn_laws_markIntS : FuncId := 44
abbrev fn_laws_heldIntS : FuncId := 45
abbrev fn_spec_someOdds : FuncId := 46
abbrev fn_spec_newReader : FuncId := 47
abbrev fn_impl_validOdd : FuncId := 48
abbrev fn_spec_validOdds : FuncId := 49
abbrev fn_impl_setRight : FuncId := 50
abbrev fn_spec_stepDown : FuncId := 51
abbrev fn_impl_firstPlaces : FuncId := 52
abbrev fn_impl_foundTogether : FuncId := 53
abbrev fn_impl_oddsAt : FuncId := 54
abbrev fn_impl_places_has : FuncId := 55
abbrev fn_spec_stepUp : FuncId := 56
abbrev fn_spec_places : FuncId := 57
abbrev fn_spec_reader_one : FuncId := 58
abbrev fn_spec_reader_pick : FuncId := 59
abbrev fn_spec_reader_of : FuncId := 60
abbrev fn_spec_inRange : FuncId := 61
abbrev fn_spec_closed : FuncId := 62
abbrev fn_impl_bySize : FuncId := 63
abbrev fn_slices_Sort_ints : FuncId := 64
abbrev fn_spec_power : FuncId := 65
abbrev fn_spec_bit : FuncId := 66
abbrev fn_spec_holds : FuncId := 67
abbrev fn_slices_SortStableFunc_ints : FuncId := 68
abbrev fn_impl_bySize_1 : FuncId := 69
abbrev fn_cmp_Compare_int : FuncId := 70
abbrev fn_slices_pdqsortOrdered_int : FuncId := 71
abbrev fn_math_bits_Len : FuncId := 72
abbrev fn_spec_sorted : FuncId := 73
abbrev fn_slices_stableCmpFunc_int : FuncId := 74
abbrev fn_cmp_isNaN_int : FuncId := 75
abbrev fn_slices_insertionSortOrdered_int : FuncId := 76
abbrev fn_slices_heapSortOrdered_int : FuncId := 77
abbrev fn_slices_breakPatternsOrdered_int : FuncId := 78
abbrev fn_slices_choosePivotOrdered_int : FuncId := 79
abbrev fn_slices_reverseRangeOrdered_int : FuncId := 80
abbrev fn_slices_partialInsertionSortOrdered_int : FuncId := 81
abbrev fn_cmp_Less_int : FuncId := 82
abbrev fn_slices_partitionEqualOrdered_int : FuncId := 83
abbrev fn_slices_partitionOrdered_int : FuncId := 84
abbrev fn_math_bits_Len32 : FuncId := 85
abbrev fn_math_bits_Len64 : FuncId := 86
abbrev fn_slices_insertionSortCmpFunc_int : FuncId := 87
abbrev fn_slices_symMergeCmpFunc_int : FuncId := 88
abbrev fn_slices_siftDownOrdered_int : FuncId := 89
abbrev fn_slices_nextPowerOfTwo : FuncId := 90
abbrev fn_slices_xorshift_Next : FuncId := 91
abbrev fn_slices_medianAdjacentOrdered_int : FuncId := 92
abbrev fn_slices_medianOrdered_int : FuncId := 93
abbrev fn_slices_rotateCmpFunc_int : FuncId := 94
abbrev fn_slices_order2Ordered_int : FuncId := 95
abbrev fn_slices_swapRangeCmpFunc_int : FuncId := 96
abbrev fn_runtime_boundsError_Error : FuncId := 97
abbrev fn_runtime_boundsError_RuntimeError : FuncId := 98
abbrev fn_runtime_errorString_Error : FuncId := 99
abbrev fn_runtime_errorString_RuntimeError : FuncId := 100
abbrev fn_runtime_plainError_Error : FuncId := 101
abbrev fn_runtime_plainError_RuntimeError : FuncId := 102
abbrev fn_runtime_errorAddressString_Error : FuncId := 103
abbrev fn_runtime_errorAddressString_RuntimeError : FuncId := 104
abbrev fn_runtime_TypeAssertionError_Error : FuncId := 105
abbrev fn_runtime_TypeAssertionError_RuntimeError : FuncId := 106
abbrev fn_runtime_PanicNilError_Error : FuncId := 107
abbrev fn_runtime_PanicNilError_RuntimeError : FuncId := 108
abbrev fn_internal_abi_Type_Align : FuncId := 109
abbrev fn_internal_runtime_maps_unhashableTypeError_Error : FuncId := 110
abbrev fn_internal_runtime_maps_unhashableTypeError_RuntimeError : FuncId := 111
abbrev fn_impl_allAtOnce_raised : FuncId := 112
abbrev fn_impl_stepsDown_raised : FuncId := 113
abbrev fn_impl_stepsUp_raised : FuncId := 114
abbrev fn_impl_shares_raised : FuncId := 115
abbrev fn_internal_abi_Kind_String : FuncId := 116
theorem mixed : Try.prog.follows .mixedOrders = true := by kernel_rfl

def mc_laws_FnExactValidOdds : MC :=
  .seq (.reg [⟨some 2, none, .mv (.c (.bool false))⟩]) (.seq (.seq (.reg [⟨some 6, none, .mv (.t 0)⟩, ⟨some 7, none, .len (.t 6)⟩, ⟨some 8, none, .bin .gtr (.t 7) (.c (.int .i64 1048576))⟩]) (.cond (.t 8) (.seq (.reg [⟨some 2, none, .mv (.c (.bool true))⟩]) .ret) .skip)) (.seq (.reg [⟨some 9, none, .mv (.t 0)⟩, ⟨some 10, none, .call fn_laws_toIntS [.t 9]⟩, ⟨some 11, none, .call fn_spec_ValidOdds [.t 10]⟩, ⟨some 3, none, .mv (.t 11)⟩]) (.seq (.reg [⟨some 12, none, .mv (.t 0)⟩, ⟨some 13, none, .call fn_laws_toIntS [.t 12]⟩, ⟨some 4, none, .mv (.t 13)⟩]) (.seq (.reg [⟨some 14, none, .mv (.t 4)⟩, ⟨some 15, none, .call fn_impl_ValidOdds [.t 14]⟩, ⟨some 5, none, .mv (.t 15)⟩]) (.seq (.seq (.reg [⟨some 16, none, .mv (.t 5)⟩, ⟨some 17, none, .mv (.t 3)⟩, ⟨some 18, none, .beq true (.t 16) (.t 17)⟩]) (.cond (.t 18) (.seq (.reg [⟨some 2, none, .mv (.c (.bool false))⟩]) .ret) .skip)) (.seq (.seq (.reg [⟨some 19, none, .mv (.t 4)⟩, ⟨some 20, none, .mv (.t 0)⟩, ⟨some 21, none, .call fn_laws_toIntS [.t 20]⟩, ⟨some 22, none, .call fn_laws_eqIntS [.t 19, .t 21]⟩, ⟨some 23, none, .un .not (.t 22)⟩]) (.cond (.t 23) (.seq (.reg [⟨some 2, none, .mv (.c (.bool false))⟩]) .ret) .skip)) (.seq (.reg [⟨some 2, none, .mv (.c (.bool true))⟩]) .ret)))))))
theorem code_laws_FnExactValidOdds : HasCode Try.prog fn_laws_FnExactValidOdds mc_laws_FnExactValidOdds [.t 2] 24 := ⟨mixed, Try.f10, _, Try.func10, rfl, by kernel_rfl, by kernel_rfl, rfl, by kernel_rfl⟩

def mc_impl_ValidOdds : MC :=
  .seq (.reg [⟨some 2, none, .mv (.c (.bool false))⟩]) (.seq (.seq (.reg [⟨some 5, none, .mv (.t 0)⟩, ⟨some 6, none, .len (.t 5)⟩, ⟨some 7, none, .bin .lss (.t 6) (.c (.int .i64 1))⟩, ⟨some 8, none, .mv (.t 7)⟩, ⟨some 9, some (8, false), .mv (.t 0)⟩, ⟨some 10, some (8, false), .len (.t 9)⟩, ⟨some 11, some (8, false), .bin .gtr (.t 10) (.c (.int .i64 6))⟩, ⟨some 12, none, .pick (.t 8) (.c (.bool true)) (.t 11)⟩]) (.cond (.t 12) (.seq (.reg [⟨some 2, none, .mv (.c (.bool false))⟩]) .ret) .skip)) (.seq (.seq (.reg [⟨some 13, none, .mv (.t 0)⟩, ⟨some 14, none, .len (.t 13)⟩, ⟨some 15, none, .mv (.c (.int .i64 0))⟩]) (.block 0 (.loop (.seq (.reg [⟨some 16, none, .bin .lss (.t 15) (.t 14)⟩]) (.seq (.cond (.t 16) .skip (.exit 0)) (.seq (.block 1 (.seq (.reg [⟨some 17, none, .ixa (.t 13) (.t 15) 1⟩, ⟨some 18, none, .ld (.t 17) 1 false⟩, ⟨some 4, none, .mv (.t 18)⟩]) (.seq (.reg [⟨some 19, none, .mv (.t 4)⟩, ⟨some 20, none, .call fn_impl_validOdd [.t 19]⟩, ⟨some 21, none, .un .not (.t 20)⟩]) (.cond (.t 21) (.seq (.reg [⟨some 2, none, .mv (.c (.bool false))⟩]) .ret) .skip)))) (.reg [⟨some 22, none, .bin .add (.t 15) (.c (.int .i64 1))⟩, ⟨some 15, none, .mv (.t 22)⟩]))))))) (.seq (.reg [⟨some 2, none, .mv (.c (.bool true))⟩]) .ret)))
theorem code_impl_ValidOdds : HasCode Try.prog fn_impl_ValidOdds mc_impl_ValidOdds [.t 2] 23 := ⟨mixed, Try.f18, _, Try.func18, rfl, by kernel_rfl, by kernel_rfl, rfl, by kernel_rfl⟩

def mc_spec_ValidOdds : MC :=
  .seq (.reg [⟨some 2, none, .mv (.c (.bool false))⟩]) (.seq (.reg [⟨some 3, none, .mv (.t 0)⟩, ⟨some 4, none, .call fn_spec_validOdds [.t 3]⟩, ⟨some 2, none, .mv (.t 4)⟩]) .ret)
theorem code_spec_ValidOdds : HasCode Try.prog fn_spec_ValidOdds mc_spec_ValidOdds [.t 2] 5 := ⟨mixed, Try.f19, _, Try.func19, rfl, by kernel_rfl, by kernel_rfl, rfl, by kernel_rfl⟩

def mc_laws_toIntS : MC :=
  .seq (.reg [⟨some 2, none, .mv (.c .nilSlice)⟩]) (.seq (.reg [⟨some 5, none, .mv (.t 0)⟩, ⟨some 6, none, .len (.t 5)⟩, ⟨some 7, none, .mks (.t 6) (.t 6) [.int .i64 0] 1 8⟩, ⟨some 3, none, .mv (.t 7)⟩]) (.seq (.seq (.reg [⟨some 4, none, .mv (.c (.int .i64 0))⟩]) (.block 0 (.loop (.seq (.seq (.reg [⟨some 8, none, .mv (.t 4)⟩, ⟨some 9, none, .mv (.t 0)⟩, ⟨some 10, none, .len (.t 9)⟩, ⟨some 11, none, .bin .lss (.t 8) (.t 10)⟩]) (.cond (.t 11) .skip (.exit 0))) (.seq (.block 1 (.reg [⟨some 14, none, .mv (.t 3)⟩, ⟨some 15, none, .mv (.t 4)⟩, ⟨some 16, none, .mv (.t 0)⟩, ⟨some 17, none, .mv (.t 4)⟩, ⟨some 18, none, .ixa (.t 16) (.t 17) 1⟩, ⟨some 19, none, .ld (.t 18) 1 false⟩, ⟨some 20, none, .ixa (.t 14) (.t 15) 1⟩, ⟨none, none, .st (.t 20) (.t 19) 1⟩])) (.reg [⟨some 12, none, .mv (.t 4)⟩, ⟨some 13, none, .bin .add (.t 12) (.c (.int .i64 1))⟩, ⟨some 4, none, .mv (.t 13)⟩])))))) (.seq (.reg [⟨some 21, none, .mv (.t 3)⟩, ⟨some 2, none, .mv (.t 21)⟩]) .ret)))
theorem code_laws_toIntS : HasCode Try.prog fn_laws_toIntS mc_laws_toIntS [.t 2] 22 := ⟨mixed, Try.f42, _, Try.func42, rfl, by kernel_rfl, by kernel_rfl, rfl, by kernel_rfl⟩

def mc_laws_eqIntS : MC :=
  .seq (.reg [⟨some 4, none, .mv (.c (.bool false))⟩]) (.seq (.seq (.reg [⟨some 6, none, .mv (.t 0)⟩, ⟨some 7, none, .len (.t 6)⟩, ⟨some 8, none, .mv (.t 1)⟩, ⟨some 9, none, .len (.t 8)⟩, ⟨some 10, none, .bin .neq (.t 7) (.t 9)⟩]) (.cond (.t 10) (.seq (.reg [⟨some 4, none, .mv (.c (.bool false))⟩]) .ret) .skip)) (.seq (.seq (.reg [⟨some 5, none, .mv (.c (.int .i64 0))⟩]) (.block 0 (.loop (.seq (.seq (.reg [⟨some 11, none, .mv (.t 5)⟩, ⟨some 12, none, .mv (.t 0)⟩, ⟨some 13, none, .len (.t 12)⟩, ⟨some 14, none, .bin .lss (.t 11) (.t 13)⟩]) (.cond (.t 14) .skip (.exit 0))) (.seq (.block 1 (.seq (.drq [⟨some 17, none, .mv (.t 0)⟩, ⟨some 18, none, .mv (.t 5)⟩, ⟨some 19, none, .ixa (.t 17) (.t 18) 1⟩, ⟨some 20, none, .ld (.t 19) 1 false⟩, ⟨some 21, none, .mv (.t 1)⟩, ⟨some 22, none, .mv (.t 5)⟩, ⟨some 23, none, .ixa (.t 21) (.t 22) 1⟩, ⟨some 24, none, .ld (.t 23) 1 false⟩, ⟨some 25, none, .bin .neq (.t 20) (.t 24)⟩]) (.cond (.t 25) (.seq (.reg [⟨some 4, none, .mv (.c (.bool false))⟩]) .ret) .skip))) (.reg [⟨some 15, none, .mv (.t 5)⟩, ⟨some 16, none, .bin .add (.t 15) (.c (.int .i64 1))⟩, ⟨some 5, none, .mv (.t 16)⟩])))))) (.seq (.reg [⟨some 4, none, .mv (.c (.bool true))⟩]) .ret)))
theorem code_laws_eqIntS : HasCode Try.prog fn_laws_eqIntS mc_laws_eqIntS [.t 4] 26 := ⟨mixed, Try.f43, _, Try.func43, rfl, by kernel_rfl, by kernel_rfl, rfl, by kernel_rfl⟩

def mc_impl_validOdd : MC :=
  .seq (.reg [⟨some 2, none, .mv (.c (.bool false))⟩]) (.seq (.reg [⟨some 3, none, .mv (.t 0)⟩, ⟨some 4, none, .bin .geq (.t 3) (.c (.int .i64 0))⟩, ⟨some 5, none, .mv (.t 4)⟩, ⟨some 6, some (5, true), .mv (.t 0)⟩, ⟨some 7, some (5, true), .bin .leq (.t 6) (.c (.int .i64 1000))⟩, ⟨some 8, none, .pick (.t 5) (.t 7) (.c (.bool false))⟩, ⟨some 2, none, .mv (.t 8)⟩]) .ret)
theorem code_impl_validOdd : HasCode Try.prog fn_impl_validOdd mc_impl_validOdd [.t 2] 9 := ⟨mixed, Try.f48, _, Try.func48, rfl, by kernel_rfl, by kernel_rfl, rfl, by kernel_rfl⟩

def mc_spec_validOdds : MC :=
  .seq (.reg [⟨some 2, none, .mv (.c (.bool false))⟩]) (.seq (.seq (.reg [⟨some 3, none, .mv (.c (.int .i64 0))⟩]) (.block 0 (.loop (.seq (.seq (.reg [⟨some 4, none, .mv (.t 3)⟩, ⟨some 5, none, .mv (.t 0)⟩, ⟨some 6, none, .len (.t 5)⟩, ⟨some 7, none, .bin .lss (.t 4) (.t 6)⟩]) (.cond (.t 7) .skip (.exit 0))) (.seq (.block 1 (.seq (.reg [⟨some 10, none, .mv (.t 0)⟩, ⟨some 11, none, .mv (.t 3)⟩, ⟨some 12, none, .ixa (.t 10) (.t 11) 1⟩, ⟨some 13, none, .ld (.t 12) 1 false⟩, ⟨some 14, none, .call fn_spec_inRange [.t 13, .c (.int .i64 0), .c (.int .i64 1000)]⟩, ⟨some 15, none, .un .not (.t 14)⟩]) (.cond (.t 15) (.seq (.reg [⟨some 2, none, .mv (.c (.bool false))⟩]) .ret) .skip))) (.reg [⟨some 8, none, .mv (.t 3)⟩, ⟨some 9, none, .bin .add (.t 8) (.c (.int .i64 1))⟩, ⟨some 3, none, .mv (.t 9)⟩])))))) (.seq (.reg [⟨some 16, none, .mv (.t 0)⟩, ⟨some 17, none, .len (.t 16)⟩, ⟨some 18, none, .call fn_spec_inRange [.t 17, .c (.int .i64 1), .c (.int .i64 6)]⟩, ⟨some 2, none, .mv (.t 18)⟩]) .ret))
theorem code_spec_validOdds : HasCode Try.prog fn_spec_validOdds mc_spec_validOdds [.t 2] 19 := ⟨mixed, Try.f49, _, Try.func49, rfl, by kernel_rfl, by kernel_rfl, rfl, by kernel_rfl⟩

def mc_spec_inRange : MC :=
  .seq (.reg [⟨some 6, none, .mv (.c (.bool false))⟩]) (.seq (.reg [⟨some 7, none, .mv (.t 1)⟩, ⟨some 8, none, .mv (.t 0)⟩, ⟨some 9, none, .bin .leq (.t 7) (.t 8)⟩, ⟨some 10, none, .mv (.t 9)⟩, ⟨some 11, some (10, true), .mv (.t 0)⟩, ⟨some 12, some (10, true), .mv (.t 2)⟩, ⟨some 13, some (10, true), .bin .leq (.t 11) (.t 12)⟩, ⟨some 14, none, .pick (.t 10) (.t 13) (.c (.bool false))⟩, ⟨some 6, none, .mv (.t 14)⟩]) .ret)
theorem code_spec_inRange : HasCode Try.prog fn_spec_inRange mc_spec_inRange [.t 6] 15 := ⟨mixed, Try.f61, _, Try.func61, rfl, by kernel_rfl, by kernel_rfl, rfl, by kernel_rfl⟩

end Go.Rx.Try
