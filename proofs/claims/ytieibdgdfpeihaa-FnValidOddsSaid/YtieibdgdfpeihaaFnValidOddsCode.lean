/-
  The code of each function of the program, taken up. Made by a program.
-/
import Derived.Test.YtieibdgdfpeihaaProg
import Derived.Test.YtieibdgdfpeihaaRxI
import Derived.KernelRfl
namespace Go.Rx.Try
open Go.Proofs
set_option maxRecDepth 100000

abbrev fn_laws_FnValidOdds : FuncId := 3
abbrev fn_laws_FnTimesAll : FuncId := 4
abbrev fn_laws_FnStepDown : FuncId := 5
abbrev fn_laws_FnStepUp : FuncId := 6
abbrev fn_laws_FnFalseShare : FuncId := 7
abbrev fn_laws_FnClosedBy : FuncId := 8
abbrev fn_laws_FnFoundAt : FuncId := 9
abbrev fn_laws_FnExactValidOdds : FuncId := 10
abbrev fn_laws_FnExactTimesAll : FuncId := 11
abbrev fn_laws_FnExactStepDown : FuncId := 12
abbrev fn_laws_FnExactStepUp : FuncId := 13
abbrev fn_laws_FnExactFalseShare : FuncId := 14
abbrev fn_laws_FnExactClosedBy : FuncId := 15
abbrev fn_laws_FnExactFoundAt : FuncId := 16
abbrev fn_spec_DrawValidOdds : FuncId := 17
abbrev fn_impl_ValidOdds : FuncId := 18
abbrev fn_spec_ValidOdds : FuncId := 19
abbrev fn_spec_DrawTimesAll : FuncId := 20
abbrev fn_impl_TimesAll : FuncId := 21
abbrev fn_laws_equalInts : FuncId := 22
abbrev fn_spec_TimesAll : FuncId := 23
abbrev fn_impl_StepDown : FuncId := 24
abbrev fn_impl_StepUp : FuncId := 25
abbrev fn_impl_FalseShare : FuncId := 26
abbrev fn_spec_DrawStepDown : FuncId := 27
abbrev fn_spec_StepDown : FuncId := 28
abbrev fn_impl_FoundAt : FuncId := 29
abbrev fn_impl_ClosedBy : FuncId := 30
abbrev fn_spec_DrawStepUp : FuncId := 31
abbrev fn_spec_StepUp : FuncId := 32
abbrev fn_laws_isIn : FuncId := 33
abbrev fn_spec_DrawFalseShare : FuncId := 34
abbrev fn_spec_FalseShare : FuncId := 35
abbrev fn_laws_greatest : FuncId := 36
abbrev fn_spec_DrawClosedBy : FuncId := 37
abbrev fn_spec_ClosedBy : FuncId := 38
abbrev fn_laws_ascends : FuncId := 39
abbrev fn_spec_DrawFoundAt : FuncId := 40
abbrev fn_spec_FoundAt : FuncId := 41
abbrev fn_laws_toIntS : FuncId := 42
abbrev fn_laws_eqIntS : FuncId := 43
abbrev fn_laws_markIntS : FuncId := 44
abbrev fn_laws_heldIntS : FuncId := 45
abbrev fn_spec_someOdds : FuncId := 46
abbrev fn_spec_newReader : FuncId := 47
abbrev fn_impl_validOdd : FuncId := 48
abbrev fn_spec_validOdds : FuncId := 49
abbrev fn_impl_setRight : FuncId := 50
abbrev fn_spec_stepDown : FuncId := 51
abbrev fn_impl_firstPlaces : FuncId := 52
abbrev fn_impl_foundTogether : FuncId := 53
abbrev fn_impl_oddsAt : FuncId := 54
abbrev fn_impl_places_has : FuncId := 55
abbrev fn_spec_stepUp : FuncId := 56
abbrev fn_spec_places : FuncId := 57
abbrev fn_spec_reader_one : FuncId := 58
abbrev fn_spec_reader_pick : FuncId := 59
abbrev fn_spec_reader_of : FuncId := 60
abbrev fn_spec_inRange : FuncId := 61
abbrev fn_spec_closed : FuncId := 62
abbrev fn_impl_bySize : FuncId := 63
abbrev fn_slices_Sort_ints : FuncId := 64
abbrev fn_spec_power : FuncId := 65
abbrev fn_spec_bit : FuncId := 66
abbrev fn_spec_holds : FuncId := 67
abbrev fn_slices_SortStableFunc_ints : FuncId := 68
abbrev fn_impl_bySize_1 : FuncId := 69
abbrev fn_cmp_Compare_int : FuncId := 70
abbrev fn_slices_pdqsortOrdered_int : FuncId := 71
abbrev fn_math_bits_Len : FuncId := 72
abbrev fn_spec_sorted : FuncId := 73
abbrev fn_slices_stableCmpFunc_int : FuncId := 74
abbrev fn_cmp_isNaN_int : FuncId := 75
abbrev fn_slices_insertionSortOrdered_int : FuncId := 76
abbrev fn_slices_heapSortOrdered_int : FuncId := 77
abbrev fn_slices_breakPatternsOrdered_int : FuncId := 78
abbrev fn_slices_choosePivotOrdered_int : FuncId := 79
abbrev fn_slices_reverseRangeOrdered_int : FuncId := 80
abbrev fn_slices_partialInsertionSortOrdered_int : FuncId := 81
abbrev fn_cmp_Less_int : FuncId := 82
abbrev fn_slices_partitionEqualOrdered_int : FuncId := 83
abbrev fn_slices_partitionOrdered_int : FuncId := 84
abbrev fn_math_bits_Len32 : FuncId := 85
abbrev fn_math_bits_Len64 : FuncId := 86
abbrev fn_slices_insertionSortCmpFunc_int : FuncId := 87
abbrev fn_slices_symMergeCmpFunc_int : FuncId := 88
abbrev fn_slices_siftDownOrdered_int : FuncId := 89
abbrev fn_slices_nextPowerOfTwo : FuncId := 90
abbrev fn_slices_xorshift_Next : FuncId := 91
abbrev fn_slices_medianAdjacentOrdered_int : FuncId := 92
abbrev fn_slices_medianOrdered_int : FuncId := 93
abbrev fn_slices_rotateCmpFunc_int : FuncId := 94
abbrev fn_slices_order2Ordered_int : FuncId := 95
abbrev fn_slices_swapRangeCmpFunc_int : FuncId := 96
abbrev fn_runtime_boundsError_Error : FuncId := 97
abbrev fn_runtime_boundsError_RuntimeError : FuncId := 98
abbrev fn_runtime_errorString_Error : FuncId := 99
abbrev fn_runtime_errorString_RuntimeError : FuncId := 100
abbrev fn_runtime_plainError_Error : FuncId := 101
abbrev fn_runtime_plainError_RuntimeError : FuncId := 102
abbrev fn_runtime_errorAddressString_Error : FuncId := 103
abbrev fn_runtime_errorAddressString_RuntimeError : FuncId := 104
abbrev fn_runtime_TypeAssertionError_Error : FuncId := 105
abbrev fn_runtime_TypeAssertionError_RuntimeError : FuncId := 106
abbrev fn_runtime_PanicNilError_Error : FuncId := 107
abbrev fn_runtime_PanicNilError_RuntimeError : FuncId := 108
abbrev fn_internal_abi_Type_Align : FuncId := 109
abbrev fn_internal_runtime_maps_unhashableTypeError_Error : FuncId := 110
abbrev fn_internal_runtime_maps_unhashableTypeError_RuntimeError : FuncId := 111
abbrev fn_impl_allAtOnce_raised : FuncId := 112
abbrev fn_impl_stepsDown_raised : FuncId := 113
abbrev fn_impl_stepsUp_raised : FuncId := 114
abbrev fn_impl_shares_raised : FuncId := 115
abbrev fn_internal_abi_Kind_String : FuncId := 116
theorem mixed : Try.prog.follows .mixedOrders = true := by kernel_rfl

def mc_laws_FnValidOdds : MC :=
  .seq (.reg [⟨some 2, none, .mv (.c (.bool false))⟩]) (.seq (.seq (.reg [⟨some 6, none, .mv (.t 0)⟩, ⟨some 7, none, .len (.t 6)⟩, ⟨some 8, none, .bin .gtr (.t 7) (.c (.int .i64 1048576))⟩]) (.cond (.t 8) (.seq (.reg [⟨some 2, none, .mv (.c (.bool true))⟩]) .ret) .skip)) (.seq (.reg [⟨some 9, none, .mv (.t 0)⟩, ⟨some 10, none, .call fn_spec_DrawValidOdds [.t 9]⟩, ⟨some 3, none, .mv (.t 10)⟩]) (.seq (.reg [⟨some 11, none, .mv (.t 3)⟩, ⟨some 12, none, .call fn_impl_ValidOdds [.t 11]⟩, ⟨some 4, none, .mv (.t 12)⟩]) (.seq (.seq (.reg [⟨some 13, none, .mv (.t 4)⟩, ⟨some 14, none, .mv (.t 3)⟩, ⟨some 15, none, .call fn_spec_ValidOdds [.t 14]⟩, ⟨some 16, none, .beq true (.t 13) (.t 15)⟩, ⟨some 17, none, .mv (.t 16)⟩, ⟨some 18, some (17, false), .mv (.t 4)⟩, ⟨some 19, some (17, false), .un .not (.t 18)⟩, ⟨some 20, none, .pick (.t 17) (.c (.bool true)) (.t 19)⟩]) (.cond (.t 20) (.seq (.reg [⟨some 21, none, .mv (.t 4)⟩, ⟨some 22, none, .mv (.t 3)⟩, ⟨some 23, none, .call fn_spec_ValidOdds [.t 22]⟩, ⟨some 24, none, .beq false (.t 21) (.t 23)⟩, ⟨some 2, none, .mv (.t 24)⟩]) .ret) .skip)) (.seq (.reg [⟨some 25, none, .mv (.t 3)⟩, ⟨some 26, none, .len (.t 25)⟩, ⟨some 5, none, .mv (.t 26)⟩]) (.seq (.reg [⟨some 27, none, .mv (.t 5)⟩, ⟨some 28, none, .bin .eql (.t 27) (.c (.int .i64 1))⟩, ⟨some 29, none, .mv (.t 28)⟩, ⟨some 30, some (29, false), .mv (.t 3)⟩, ⟨some 31, some (29, false), .mv (.t 5)⟩, ⟨some 32, some (29, false), .bin .sub (.t 31) (.c (.int .i64 1))⟩, ⟨some 33, some (29, false), .sl (.t 30) none (some (.t 32)) none 1⟩, ⟨some 34, some (29, false), .call fn_impl_ValidOdds [.t 33]⟩, ⟨some 35, none, .pick (.t 29) (.c (.bool true)) (.t 34)⟩, ⟨some 2, none, .mv (.t 35)⟩]) .ret))))))
theorem code_laws_FnValidOdds : HasCode Try.prog fn_laws_FnValidOdds mc_laws_FnValidOdds [.t 2] 36 := ⟨mixed, Try.f3, _, Try.func3, rfl, by kernel_rfl, by kernel_rfl, rfl, by kernel_rfl⟩

def mc_spec_DrawValidOdds : MC :=
  .seq (.reg [⟨some 2, none, .mv (.c .nilSlice)⟩]) (.seq (.reg [⟨some 3, none, .mv (.t 0)⟩, ⟨some 4, none, .call fn_spec_newReader [.t 3]⟩, ⟨some 5, none, .call fn_spec_someOdds [.t 4]⟩, ⟨some 2, none, .mv (.t 5)⟩]) .ret)
theorem code_spec_DrawValidOdds : HasCode Try.prog fn_spec_DrawValidOdds mc_spec_DrawValidOdds [.t 2] 6 := ⟨mixed, Try.f17, _, Try.func17, rfl, by kernel_rfl, by kernel_rfl, rfl, by kernel_rfl⟩

def mc_impl_ValidOdds : MC :=
  .seq (.reg [⟨some 2, none, .mv (.c (.bool false))⟩]) (.seq (.seq (.reg [⟨some 5, none, .mv (.t 0)⟩, ⟨some 6, none, .len (.t 5)⟩, ⟨some 7, none, .bin .lss (.t 6) (.c (.int .i64 1))⟩, ⟨some 8, none, .mv (.t 7)⟩, ⟨some 9, some (8, false), .mv (.t 0)⟩, ⟨some 10, some (8, false), .len (.t 9)⟩, ⟨some 11, some (8, false), .bin .gtr (.t 10) (.c (.int .i64 6))⟩, ⟨some 12, none, .pick (.t 8) (.c (.bool true)) (.t 11)⟩]) (.cond (.t 12) (.seq (.reg [⟨some 2, none, .mv (.c (.bool false))⟩]) .ret) .skip)) (.seq (.seq (.reg [⟨some 13, none, .mv (.t 0)⟩, ⟨some 14, none, .len (.t 13)⟩, ⟨some 15, none, .mv (.c (.int .i64 0))⟩]) (.block 0 (.loop (.seq (.reg [⟨some 16, none, .bin .lss (.t 15) (.t 14)⟩]) (.seq (.cond (.t 16) .skip (.exit 0)) (.seq (.block 1 (.seq (.reg [⟨some 17, none, .ixa (.t 13) (.t 15) 1⟩, ⟨some 18, none, .ld (.t 17) 1 false⟩, ⟨some 4, none, .mv (.t 18)⟩]) (.seq (.reg [⟨some 19, none, .mv (.t 4)⟩, ⟨some 20, none, .call fn_impl_validOdd [.t 19]⟩, ⟨some 21, none, .un .not (.t 20)⟩]) (.cond (.t 21) (.seq (.reg [⟨some 2, none, .mv (.c (.bool false))⟩]) .ret) .skip)))) (.reg [⟨some 22, none, .bin .add (.t 15) (.c (.int .i64 1))⟩, ⟨some 15, none, .mv (.t 22)⟩]))))))) (.seq (.reg [⟨some 2, none, .mv (.c (.bool true))⟩]) .ret)))
theorem code_impl_ValidOdds : HasCode Try.prog fn_impl_ValidOdds mc_impl_ValidOdds [.t 2] 23 := ⟨mixed, Try.f18, _, Try.func18, rfl, by kernel_rfl, by kernel_rfl, rfl, by kernel_rfl⟩

def mc_spec_ValidOdds : MC :=
  .seq (.reg [⟨some 2, none, .mv (.c (.bool false))⟩]) (.seq (.reg [⟨some 3, none, .mv (.t 0)⟩, ⟨some 4, none, .call fn_spec_validOdds [.t 3]⟩, ⟨some 2, none, .mv (.t 4)⟩]) .ret)
theorem code_spec_ValidOdds : HasCode Try.prog fn_spec_ValidOdds mc_spec_ValidOdds [.t 2] 5 := ⟨mixed, Try.f19, _, Try.func19, rfl, by kernel_rfl, by kernel_rfl, rfl, by kernel_rfl⟩

def mc_spec_someOdds : MC :=
  .seq (.reg [⟨some 2, none, .mv (.c .nilSlice)⟩]) (.seq (.reg [⟨some 5, none, .bsl 0 1 [.int .i64 0] []⟩, ⟨some 3, none, .mv (.t 5)⟩]) (.seq (.seq (.reg [⟨some 6, none, .mv (.t 0)⟩, ⟨some 7, none, .bsl 7 1 [.int .i64 0] [(0, .c (.int .i64 3)), (1, .c (.int .i64 4)), (2, .c (.int .i64 5)), (3, .c (.int .i64 2)), (4, .c (.int .i64 6)), (5, .c (.int .i64 1)), (6, .c (.int .i64 0))]⟩, ⟨some 8, none, .call fn_spec_reader_one [.t 6, .t 7]⟩, ⟨some 4, none, .mv (.t 8)⟩]) (.block 0 (.loop (.seq (.seq (.reg [⟨some 9, none, .mv (.t 3)⟩, ⟨some 10, none, .len (.t 9)⟩, ⟨some 11, none, .mv (.t 4)⟩, ⟨some 12, none, .bin .lss (.t 10) (.t 11)⟩]) (.cond (.t 12) .skip (.exit 0))) (.block 1 (.reg [⟨some 13, none, .mv (.t 3)⟩, ⟨some 14, none, .mv (.t 0)⟩, ⟨some 15, none, .mv (.t 0)⟩, ⟨some 16, none, .call fn_spec_reader_pick [.t 15, .c (.int .i64 60)]⟩, ⟨some 17, none, .mv (.t 0)⟩, ⟨some 18, none, .call fn_spec_reader_pick [.t 17, .c (.int .i64 20)]⟩, ⟨some 19, none, .mv (.t 0)⟩, ⟨some 20, none, .call fn_spec_reader_pick [.t 19, .c (.int .i64 250)]⟩, ⟨some 21, none, .bin .mul (.c (.int .i64 4)) (.t 20)⟩, ⟨some 22, none, .bsl 6 1 [.int .i64 0] [(0, .t 16), (1, .t 18), (2, .t 21), (3, .c (.int .i64 10)), (4, .c (.int .i64 0)), (5, .c (.int .i64 1000))]⟩, ⟨some 23, none, .call fn_spec_reader_one [.t 14, .t 22]⟩, ⟨some 24, none, .bsl 1 1 [.int .i64 0] [(0, .t 23)]⟩, ⟨some 25, none, .app (.t 13) (.t 24) 1 8⟩, ⟨some 3, none, .mv (.t 25)⟩])))))) (.seq (.seq (.reg [⟨some 26, none, .mv (.t 0)⟩, ⟨some 27, none, .call fn_spec_reader_pick [.t 26, .c (.int .i64 30)]⟩, ⟨some 28, none, .bin .eql (.t 27) (.c (.int .i64 0))⟩]) (.cond (.t 28) (.seq (.reg [⟨some 29, none, .mv (.t 3)⟩, ⟨some 30, none, .mv (.t 0)⟩, ⟨some 31, none, .bsl 2 1 [.int .i64 0] [(0, .c (.int .i64 1001)), (1, .c (.int .i64 (-1)))]⟩, ⟨some 32, none, .call fn_spec_reader_one [.t 30, .t 31]⟩, ⟨some 33, none, .bsl 1 1 [.int .i64 0] [(0, .t 32)]⟩, ⟨some 34, none, .app (.t 29) (.t 33) 1 8⟩, ⟨some 2, none, .mv (.t 34)⟩]) .ret) .skip)) (.seq (.reg [⟨some 35, none, .mv (.t 3)⟩, ⟨some 2, none, .mv (.t 35)⟩]) .ret))))
theorem code_spec_someOdds : HasCode Try.prog fn_spec_someOdds mc_spec_someOdds [.t 2] 36 := ⟨mixed, Try.f46, _, Try.func46, rfl, by kernel_rfl, by kernel_rfl, rfl, by kernel_rfl⟩

def mc_spec_newReader : MC :=
  .seq (.reg [⟨some 2, none, .mv (.c .nilPtr)⟩]) (.seq (.seq (.reg [⟨some 3, none, .mv (.t 0)⟩, ⟨some 4, none, .len (.t 3)⟩, ⟨some 5, none, .bin .gtr (.t 4) (.c (.int .i64 2000))⟩]) (.cond (.t 5) (.reg [⟨some 6, none, .mv (.t 0)⟩, ⟨some 7, none, .sl (.t 6) none (some (.c (.int .i64 2000))) none 1⟩, ⟨some 0, none, .mv (.t 7)⟩]) .skip)) (.seq (.reg [⟨some 8, none, .mv (.t 0)⟩, ⟨some 9, none, .bld [.nilSlice, .int .i64 0] [(0, 1, .t 8)]⟩, ⟨some 10, none, .box (.t 9)⟩, ⟨some 2, none, .mv (.t 10)⟩]) .ret))
theorem code_spec_newReader : HasCode Try.prog fn_spec_newReader mc_spec_newReader [.t 2] 11 := ⟨mixed, Try.f47, _, Try.func47, rfl, by kernel_rfl, by kernel_rfl, rfl, by kernel_rfl⟩

def mc_impl_validOdd : MC :=
  .seq (.reg [⟨some 2, none, .mv (.c (.bool false))⟩]) (.seq (.reg [⟨some 3, none, .mv (.t 0)⟩, ⟨some 4, none, .bin .geq (.t 3) (.c (.int .i64 0))⟩, ⟨some 5, none, .mv (.t 4)⟩, ⟨some 6, some (5, true), .mv (.t 0)⟩, ⟨some 7, some (5, true), .bin .leq (.t 6) (.c (.int .i64 1000))⟩, ⟨some 8, none, .pick (.t 5) (.t 7) (.c (.bool false))⟩, ⟨some 2, none, .mv (.t 8)⟩]) .ret)
theorem code_impl_validOdd : HasCode Try.prog fn_impl_validOdd mc_impl_validOdd [.t 2] 9 := ⟨mixed, Try.f48, _, Try.func48, rfl, by kernel_rfl, by kernel_rfl, rfl, by kernel_rfl⟩

def mc_spec_validOdds : MC :=
  .seq (.reg [⟨some 2, none, .mv (.c (.bool false))⟩]) (.seq (.seq (.reg [⟨some 3, none, .mv (.c (.int .i64 0))⟩]) (.block 0 (.loop (.seq (.seq (.reg [⟨some 4, none, .mv (.t 3)⟩, ⟨some 5, none, .mv (.t 0)⟩, ⟨some 6, none, .len (.t 5)⟩, ⟨some 7, none, .bin .lss (.t 4) (.t 6)⟩]) (.cond (.t 7) .skip (.exit 0))) (.seq (.block 1 (.seq (.reg [⟨some 10, none, .mv (.t 0)⟩, ⟨some 11, none, .mv (.t 3)⟩, ⟨some 12, none, .ixa (.t 10) (.t 11) 1⟩, ⟨some 13, none, .ld (.t 12) 1 false⟩, ⟨some 14, none, .call fn_spec_inRange [.t 13, .c (.int .i64 0), .c (.int .i64 1000)]⟩, ⟨some 15, none, .un .not (.t 14)⟩]) (.cond (.t 15) (.seq (.reg [⟨some 2, none, .mv (.c (.bool false))⟩]) .ret) .skip))) (.reg [⟨some 8, none, .mv (.t 3)⟩, ⟨some 9, none, .bin .add (.t 8) (.c (.int .i64 1))⟩, ⟨some 3, none, .mv (.t 9)⟩])))))) (.seq (.reg [⟨some 16, none, .mv (.t 0)⟩, ⟨some 17, none, .len (.t 16)⟩, ⟨some 18, none, .call fn_spec_inRange [.t 17, .c (.int .i64 1), .c (.int .i64 6)]⟩, ⟨some 2, none, .mv (.t 18)⟩]) .ret))
theorem code_spec_validOdds : HasCode Try.prog fn_spec_validOdds mc_spec_validOdds [.t 2] 19 := ⟨mixed, Try.f49, _, Try.func49, rfl, by kernel_rfl, by kernel_rfl, rfl, by kernel_rfl⟩

def mc_spec_reader_one : MC :=
  .seq (.reg [⟨some 4, none, .mv (.c (.int .i64 0))⟩]) (.seq (.reg [⟨some 5, none, .mv (.t 1)⟩, ⟨some 6, none, .mv (.t 0)⟩, ⟨some 7, none, .mv (.t 1)⟩, ⟨some 8, none, .len (.t 7)⟩, ⟨some 9, none, .call fn_spec_reader_pick [.t 6, .t 8]⟩, ⟨some 10, none, .ixa (.t 5) (.t 9) 1⟩, ⟨some 11, none, .ld (.t 10) 1 false⟩, ⟨some 4, none, .mv (.t 11)⟩]) .ret)
theorem code_spec_reader_one : HasCode Try.prog fn_spec_reader_one mc_spec_reader_one [.t 4] 12 := ⟨mixed, Try.f58, _, Try.func58, rfl, by kernel_rfl, by kernel_rfl, rfl, by kernel_rfl⟩

def mc_spec_reader_pick : MC :=
  .seq (.reg [⟨some 4, none, .mv (.c (.int .i64 0))⟩]) (.seq (.reg [⟨some 7, none, .mv (.t 0)⟩, ⟨some 8, none, .mv (.t 0)⟩, ⟨some 9, none, .nilck (.t 8)⟩, ⟨some 10, none, .fa (.t 9) 1⟩, ⟨some 11, none, .ld (.t 10) 1 false⟩, ⟨some 12, none, .bin .add (.t 11) (.c (.int .i64 1))⟩, ⟨some 13, none, .nilck (.t 7)⟩, ⟨some 14, none, .fa (.t 13) 1⟩, ⟨none, none, .st (.t 14) (.t 12) 1⟩]) (.seq (.seq (.reg [⟨some 15, none, .mv (.t 1)⟩, ⟨some 16, none, .bin .lss (.t 15) (.c (.int .i64 1))⟩, ⟨some 17, none, .mv (.t 16)⟩, ⟨some 18, some (17, false), .mv (.t 0)⟩, ⟨some 19, some (17, false), .nilck (.t 18)⟩, ⟨some 20, some (17, false), .fa (.t 19) 0⟩, ⟨some 21, some (17, false), .ld (.t 20) 1 false⟩, ⟨some 22, some (17, false), .len (.t 21)⟩, ⟨some 23, some (17, false), .bin .eql (.t 22) (.c (.int .i64 0))⟩, ⟨some 24, none, .pick (.t 17) (.c (.bool true)) (.t 23)⟩]) (.cond (.t 24) (.seq (.reg [⟨some 4, none, .mv (.c (.int .i64 0))⟩]) .ret) .skip)) (.seq (.reg [⟨some 25, none, .mv (.t 0)⟩, ⟨some 26, none, .nilck (.t 25)⟩, ⟨some 27, none, .fa (.t 26) 1⟩, ⟨some 28, none, .ld (.t 27) 1 false⟩, ⟨some 29, none, .bin .sub (.t 28) (.c (.int .i64 1))⟩, ⟨some 5, none, .mv (.t 29)⟩]) (.seq (.seq (.reg [⟨some 30, none, .mv (.t 5)⟩, ⟨some 31, none, .mv (.t 0)⟩, ⟨some 32, none, .nilck (.t 31)⟩, ⟨some 33, none, .fa (.t 32) 0⟩, ⟨some 34, none, .ld (.t 33) 1 false⟩, ⟨some 35, none, .len (.t 34)⟩, ⟨some 36, none, .bin .lss (.t 30) (.t 35)⟩]) (.cond (.t 36) (.seq (.reg [⟨some 37, none, .mv (.t 0)⟩, ⟨some 38, none, .nilck (.t 37)⟩, ⟨some 39, none, .fa (.t 38) 0⟩, ⟨some 40, none, .ld (.t 39) 1 false⟩, ⟨some 41, none, .mv (.t 5)⟩, ⟨some 42, none, .ixa (.t 40) (.t 41) 1⟩, ⟨some 43, none, .ld (.t 42) 1 false⟩, ⟨some 44, none, .conv .i64 (.t 43)⟩, ⟨some 45, none, .mv (.t 1)⟩, ⟨some 46, none, .bin .rem (.t 44) (.t 45)⟩, ⟨some 4, none, .mv (.t 46)⟩]) .ret) .skip)) (.seq (.drq [⟨some 47, none, .mv (.t 0)⟩, ⟨some 48, none, .nilck (.t 47)⟩, ⟨some 49, none, .fa (.t 48) 0⟩, ⟨some 50, none, .ld (.t 49) 1 false⟩, ⟨some 51, none, .mv (.t 5)⟩, ⟨some 52, none, .mv (.t 0)⟩, ⟨some 53, none, .nilck (.t 52)⟩, ⟨some 54, none, .fa (.t 53) 0⟩, ⟨some 55, none, .ld (.t 54) 1 false⟩, ⟨some 56, none, .len (.t 55)⟩, ⟨some 57, none, .bin .rem (.t 51) (.t 56)⟩, ⟨some 58, none, .ixa (.t 50) (.t 57) 1⟩, ⟨some 59, none, .ld (.t 58) 1 false⟩, ⟨some 60, none, .conv .i64 (.t 59)⟩, ⟨some 61, none, .bin .mul (.t 60) (.c (.int .i64 131))⟩, ⟨some 62, none, .mv (.t 0)⟩, ⟨some 63, none, .nilck (.t 62)⟩, ⟨some 64, none, .fa (.t 63) 0⟩, ⟨some 65, none, .ld (.t 64) 1 false⟩, ⟨some 66, none, .mv (.t 5)⟩, ⟨some 67, none, .bin .mul (.t 66) (.c (.int .i64 7))⟩, ⟨some 68, none, .bin .add (.t 67) (.c (.int .i64 3))⟩, ⟨some 69, none, .mv (.t 0)⟩, ⟨some 70, none, .nilck (.t 69)⟩, ⟨some 71, none, .fa (.t 70) 0⟩, ⟨some 72, none, .ld (.t 71) 1 false⟩, ⟨some 73, none, .len (.t 72)⟩, ⟨some 74, none, .bin .rem (.t 68) (.t 73)⟩, ⟨some 75, none, .ixa (.t 65) (.t 74) 1⟩, ⟨some 76, none, .ld (.t 75) 1 false⟩, ⟨some 77, none, .conv .i64 (.t 76)⟩, ⟨some 78, none, .bin .mul (.t 77) (.c (.int .i64 1117))⟩, ⟨some 79, none, .bin .add (.t 61) (.t 78)⟩, ⟨some 80, none, .mv (.t 5)⟩, ⟨some 81, none, .bin .mul (.t 80) (.c (.int .i64 29))⟩, ⟨some 82, none, .bin .add (.t 79) (.t 81)⟩, ⟨some 83, none, .mv (.t 5)⟩, ⟨some 84, none, .mv (.t 0)⟩, ⟨some 85, none, .nilck (.t 84)⟩, ⟨some 86, none, .fa (.t 85) 0⟩, ⟨some 87, none, .ld (.t 86) 1 false⟩, ⟨some 88, none, .len (.t 87)⟩, ⟨some 89, none, .bin .quo (.t 83) (.t 88)⟩, ⟨some 90, none, .bin .mul (.t 89) (.c (.int .i64 53))⟩, ⟨some 91, none, .bin .add (.t 82) (.t 90)⟩, ⟨some 6, none, .mv (.t 91)⟩]) (.seq (.reg [⟨some 92, none, .mv (.t 6)⟩, ⟨some 93, none, .mv (.t 6)⟩, ⟨some 94, none, .bin .quo (.t 93) (.c (.int .i64 64))⟩, ⟨some 95, none, .bin .xor (.t 92) (.t 94)⟩, ⟨some 6, none, .mv (.t 95)⟩]) (.seq (.reg [⟨some 96, none, .mv (.t 6)⟩, ⟨some 97, none, .mv (.t 1)⟩, ⟨some 98, none, .bin .rem (.t 96) (.t 97)⟩, ⟨some 4, none, .mv (.t 98)⟩]) .ret)))))))
theorem code_spec_reader_pick : HasCode Try.prog fn_spec_reader_pick mc_spec_reader_pick [.t 4] 99 := ⟨mixed, Try.f59, _, Try.func59, rfl, by kernel_rfl, by kernel_rfl, rfl, by kernel_rfl⟩

def mc_spec_inRange : MC :=
  .seq (.reg [⟨some 6, none, .mv (.c (.bool false))⟩]) (.seq (.reg [⟨some 7, none, .mv (.t 1)⟩, ⟨some 8, none, .mv (.t 0)⟩, ⟨some 9, none, .bin .leq (.t 7) (.t 8)⟩, ⟨some 10, none, .mv (.t 9)⟩, ⟨some 11, some (10, true), .mv (.t 0)⟩, ⟨some 12, some (10, true), .mv (.t 2)⟩, ⟨some 13, some (10, true), .bin .leq (.t 11) (.t 12)⟩, ⟨some 14, none, .pick (.t 10) (.t 13) (.c (.bool false))⟩, ⟨some 6, none, .mv (.t 14)⟩]) .ret)
theorem code_spec_inRange : HasCode Try.prog fn_spec_inRange mc_spec_inRange [.t 6] 15 := ⟨mixed, Try.f61, _, Try.func61, rfl, by kernel_rfl, by kernel_rfl, rfl, by kernel_rfl⟩

end Go.Rx.Try
