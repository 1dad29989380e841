/-
  The code of each function of the program, taken up. Made by a program.
-/
import Derived.Test.YtieibdgdfpeihaaProg
import Derived.Test.YtieibdgdfpeihaaRxI
import Derived.KernelRfl
namespace Go.Rx.Try
open Go.Proofs
set_option maxRecDepth 100000

abbrev fn_laws_FnValidOdds : FuncId := 3
abbrev fn_laws_FnTimesAll : FuncId := 4
abbrev fn_laws_FnStepDown : FuncId := 5
abbrev fn_laws_FnStepUp : FuncId := 6
abbrev fn_laws_FnFalseShare : FuncId := 7
abbrev fn_laws_FnClosedBy : FuncId := 8
abbrev fn_laws_FnFoundAt : FuncId := 9
abbrev fn_laws_FnExactValidOdds : FuncId := 10
abbrev fn_laws_FnExactTimesAll : FuncId := 11
abbrev fn_laws_FnExactStepDown : FuncId := 12
abbrev fn_laws_FnExactStepUp : FuncId := 13
abbrev fn_laws_FnExactFalseShare : FuncId := 14
abbrev fn_laws_FnExactClosedBy : FuncId := 15
abbrev fn_laws_FnExactFoundAt : FuncId := 16
abbrev fn_spec_DrawValidOdds : FuncId := 17
abbrev fn_impl_ValidOdds : FuncId := 18
abbrev fn_spec_ValidOdds : FuncId := 19
abbrev fn_spec_DrawTimesAll : FuncId := 20
abbrev fn_impl_TimesAll : FuncId := 21
abbrev fn_laws_equalInts : FuncId := 22
abbrev fn_spec_TimesAll : FuncId := 23
abbrev fn_impl_StepDown : FuncId := 24
abbrev fn_impl_StepUp : FuncId := 25
abbrev fn_impl_FalseShare : FuncId := 26
abbrev fn_spec_DrawStepDown : FuncId := 27
abbrev fn_spec_StepDown : FuncId := 28
abbrev fn_impl_FoundAt : FuncId := 29
abbrev fn_impl_ClosedBy : FuncId := 30
abbrev fn_spec_DrawStepUp : FuncId := 31
abbrev fn_spec_StepUp : FuncId := 32
abbrev fn_laws_isIn : FuncId := 33
abbrev fn_spec_DrawFalseShare : FuncId := 34
abbrev fn_spec_FalseShare : FuncId := 35
abbrev fn_laws_greatest : FuncId := 36
abbrev fn_spec_DrawClosedBy : FuncId := 37
abbrev fn_spec_ClosedBy : FuncId := 38
abbrev fn_laws_ascends : FuncId := 39
abbrev fn_spec_DrawFoundAt : FuncId := 40
abbrev fn_spec_FoundAt : FuncId := 41
abbrev fn_laws_toIntS : FuncId := 42
abbrev fn_laws_eqIntS : FuncId := 43
abbrev fn_laws_markIntS : FuncId := 44
abbrev fn_laws_heldIntS : FuncId := 45
abbrev fn_spec_someOdds : FuncId := 46
abbrev fn_spec_newReader : FuncId := 47
abbrev fn_impl_validOdd : FuncId := 48
abbrev fn_spec_validOdds : FuncId := 49
abbrev fn_impl_setRight : FuncId := 50
abbrev fn_spec_stepDown : FuncId := 51
abbrev fn_impl_firstPlaces : FuncId := 52
abbrev fn_impl_foundTogether : FuncId := 53
abbrev fn_impl_oddsAt : FuncId := 54
abbrev fn_impl_places_has : FuncId := 55
abbrev fn_spec_stepUp : FuncId := 56
abbrev fn_spec_places : FuncId := 57
abbrev fn_spec_reader_one : FuncId := 58
abbrev fn_spec_reader_pick : FuncId := 59
abbrev fn_spec_reader_of : FuncId := 60
abbrev fn_spec_inRange : FuncId := 61
abbrev fn_spec_closed : FuncId := 62
abbrev fn_impl_bySize : FuncId := 63
abbrev fn_slices_Sort_ints : FuncId := 64
abbrev fn_spec_power : FuncId := 65
abbrev fn_spec_bit : FuncId := 66
abbrev fn_spec_holds : FuncId := 67
abbrev fn_slices_SortStableFunc_ints : FuncId := 68
abbrev fn_impl_bySize_1 : FuncId := 69
abbrev fn_cmp_Compare_int : FuncId := 70
abbrev fn_slices_pdqsortOrdered_int : FuncId := 71
abbrev fn_math_bits_Len : FuncId := 72
abbrev fn_spec_sorted : FuncId := 73
abbrev fn_slices_stableCmpFunc_int : FuncId := 74
abbrev fn_cmp_isNaN_int : FuncId := 75
abbrev fn_slices_insertionSortOrdered_int : FuncId := 76
abbrev fn_slices_heapSortOrdered_int : FuncId := 77
abbrev fn_slices_breakPatternsOrdered_int : FuncId := 78
abbrev fn_slices_choosePivotOrdered_int : FuncId := 79
abbrev fn_slices_reverseRangeOrdered_int : FuncId := 80
abbrev fn_slices_partialInsertionSortOrdered_int : FuncId := 81
abbrev fn_cmp_Less_int : FuncId := 82
abbrev fn_slices_partitionEqualOrdered_int : FuncId := 83
abbrev fn_slices_partitionOrdered_int : FuncId := 84
abbrev fn_math_bits_Len32 : FuncId := 85
abbrev fn_math_bits_Len64 : FuncId := 86
abbrev fn_slices_insertionSortCmpFunc_int : FuncId := 87
abbrev fn_slices_symMergeCmpFunc_int : FuncId := 88
abbrev fn_slices_siftDownOrdered_int : FuncId := 89
abbrev fn_slices_nextPowerOfTwo : FuncId := 90
abbrev fn_slices_xorshift_Next : FuncId := 91
abbrev fn_slices_medianAdjacentOrdered_int : FuncId := 92
abbrev fn_slices_medianOrdered_int : FuncId := 93
abbrev fn_slices_rotateCmpFunc_int : FuncId := 94
abbrev fn_slices_order2Ordered_int : FuncId := 95
abbrev fn_slices_swapRangeCmpFunc_int : FuncId := 96
abbrev fn_runtime_boundsError_Error : FuncId := 97
abbrev fn_runtime_boundsError_RuntimeError : FuncId := 98
abbrev fn_runtime_errorString_Error : FuncId := 99
abbrev fn_runtime_errorString_RuntimeError : FuncId := 100
abbrev fn_runtime_plainError_Error : FuncId := 101
abbrev fn_runtime_plainError_RuntimeError : FuncId := 102
abbrev fn_runtime_errorAddressString_Error : FuncId := 103
abbrev fn_runtime_errorAddressString_RuntimeError : FuncId := 104
abbrev fn_runtime_TypeAssertionError_Error : FuncId := 105
abbrev fn_runtime_TypeAssertionError_RuntimeError : FuncId := 106
abbrev fn_runtime_PanicNilError_Error : FuncId := 107
abbrev fn_runtime_PanicNilError_RuntimeError : FuncId := 108
abbrev fn_internal_abi_Type_Align : FuncId := 109
abbrev fn_internal_runtime_maps_unhashableTypeError_Error : FuncId := 110
abbrev fn_internal_runtime_maps_unhashableTypeError_RuntimeError : FuncId := 111
abbrev fn_impl_allAtOnce_raised : FuncId := 112
abbrev fn_impl_stepsDown_raised : FuncId := 113
abbrev fn_impl_stepsUp_raised : FuncId := 114
abbrev fn_impl_shares_raised : FuncId := 115
abbrev fn_internal_abi_Kind_String : FuncId := 116
theorem mixed : Try.prog.follows .mixedOrders = true := by kernel_rfl

def mc_laws_FnTimesAll : MC :=
  .seq (.reg [⟨some 2, none, .mv (.c (.bool false))⟩]) (.seq (.seq (.reg [⟨some 9, none, .mv (.t 0)⟩, ⟨some 10, none, .len (.t 9)⟩, ⟨some 11, none, .bin .gtr (.t 10) (.c (.int .i64 1048576))⟩]) (.cond (.t 11) (.seq (.reg [⟨some 2, none, .mv (.c (.bool true))⟩]) .ret) .skip)) (.seq (.reg [⟨some 12, none, .mv (.t 0)⟩, ⟨some 13, none, .call fn_spec_DrawTimesAll [.t 12]⟩, ⟨some 3, none, .mv (.t 13)⟩]) (.seq (.reg [⟨some 14, none, .mv (.t 3)⟩, ⟨some 15, none, .call fn_impl_TimesAll [.t 14]⟩, ⟨some 4, none, .mv (.t 15)⟩]) (.seq (.seq (.reg [⟨some 16, none, .mv (.t 4)⟩, ⟨some 17, none, .mv (.t 3)⟩, ⟨some 18, none, .call fn_spec_TimesAll [.t 17]⟩, ⟨some 19, none, .call fn_laws_equalInts [.t 16, .t 18]⟩, ⟨some 20, none, .un .not (.t 19)⟩, ⟨some 21, none, .mv (.t 20)⟩, ⟨some 22, some (21, false), .mv (.t 4)⟩, ⟨some 23, some (21, false), .len (.t 22)⟩, ⟨some 24, some (21, false), .bin .eql (.t 23) (.c (.int .i64 0))⟩, ⟨some 25, none, .pick (.t 21) (.c (.bool true)) (.t 24)⟩]) (.cond (.t 25) (.seq (.reg [⟨some 26, none, .mv (.t 4)⟩, ⟨some 27, none, .mv (.t 3)⟩, ⟨some 28, none, .call fn_spec_TimesAll [.t 27]⟩, ⟨some 29, none, .call fn_laws_equalInts [.t 26, .t 28]⟩, ⟨some 2, none, .mv (.t 29)⟩]) .ret) .skip)) (.seq (.reg [⟨some 30, none, .mv (.t 3)⟩, ⟨some 31, none, .call fn_impl_StepDown [.t 30]⟩, ⟨some 5, none, .mv (.t 31)⟩]) (.seq (.reg [⟨some 32, none, .mv (.t 3)⟩, ⟨some 33, none, .call fn_impl_StepUp [.t 32]⟩, ⟨some 6, none, .mv (.t 33)⟩]) (.seq (.reg [⟨some 34, none, .mv (.t 3)⟩, ⟨some 35, none, .call fn_impl_FalseShare [.t 34]⟩, ⟨some 7, none, .mv (.t 35)⟩]) (.seq (.seq (.reg [⟨some 8, none, .mv (.c (.int .i64 0))⟩]) (.block 0 (.loop (.seq (.seq (.reg [⟨some 36, none, .mv (.t 8)⟩, ⟨some 37, none, .mv (.t 3)⟩, ⟨some 38, none, .len (.t 37)⟩, ⟨some 39, none, .bin .lss (.t 36) (.t 38)⟩]) (.cond (.t 39) .skip (.exit 0))) (.seq (.block 1 (.seq (.drq [⟨some 42, none, .mv (.t 4)⟩, ⟨some 43, none, .mv (.t 8)⟩, ⟨some 44, none, .ixa (.t 42) (.t 43) 1⟩, ⟨some 45, none, .ld (.t 44) 1 false⟩, ⟨some 46, none, .mv (.t 5)⟩, ⟨some 47, none, .mv (.t 8)⟩, ⟨some 48, none, .ixa (.t 46) (.t 47) 1⟩, ⟨some 49, none, .ld (.t 48) 1 false⟩, ⟨some 50, none, .bin .lss (.t 45) (.t 49)⟩, ⟨some 51, none, .mv (.t 50)⟩, ⟨some 52, some (51, false), .mv (.t 5)⟩, ⟨some 53, some (51, false), .mv (.t 8)⟩, ⟨some 54, some (51, false), .ixa (.t 52) (.t 53) 1⟩, ⟨some 55, some (51, false), .ld (.t 54) 1 false⟩, ⟨some 56, some (51, false), .mv (.t 6)⟩, ⟨some 57, some (51, false), .mv (.t 8)⟩, ⟨some 58, some (51, false), .ixa (.t 56) (.t 57) 1⟩, ⟨some 59, some (51, false), .ld (.t 58) 1 false⟩, ⟨some 60, some (51, false), .bin .lss (.t 55) (.t 59)⟩, ⟨some 61, none, .pick (.t 51) (.c (.bool true)) (.t 60)⟩, ⟨some 62, none, .mv (.t 61)⟩, ⟨some 63, some (62, false), .mv (.t 6)⟩, ⟨some 64, some (62, false), .mv (.t 8)⟩, ⟨some 65, some (62, false), .ixa (.t 63) (.t 64) 1⟩, ⟨some 66, some (62, false), .ld (.t 65) 1 false⟩, ⟨some 67, some (62, false), .mv (.t 7)⟩, ⟨some 68, some (62, false), .mv (.t 8)⟩, ⟨some 69, some (62, false), .ixa (.t 67) (.t 68) 1⟩, ⟨some 70, some (62, false), .ld (.t 69) 1 false⟩, ⟨some 71, some (62, false), .bin .lss (.t 66) (.t 70)⟩, ⟨some 72, none, .pick (.t 62) (.c (.bool true)) (.t 71)⟩, ⟨some 73, none, .mv (.t 72)⟩, ⟨some 74, some (73, false), .mv (.t 7)⟩, ⟨some 75, some (73, false), .mv (.t 8)⟩, ⟨some 76, some (73, false), .ixa (.t 74) (.t 75) 1⟩, ⟨some 77, some (73, false), .ld (.t 76) 1 false⟩, ⟨some 78, some (73, false), .mv (.t 3)⟩, ⟨some 79, some (73, false), .mv (.t 8)⟩, ⟨some 80, some (73, false), .ixa (.t 78) (.t 79) 1⟩, ⟨some 81, some (73, false), .ld (.t 80) 1 false⟩, ⟨some 82, some (73, false), .bin .lss (.t 77) (.t 81)⟩, ⟨some 83, none, .pick (.t 73) (.c (.bool true)) (.t 82)⟩]) (.cond (.t 83) (.seq (.reg [⟨some 2, none, .mv (.c (.bool false))⟩]) .ret) .skip))) (.reg [⟨some 40, none, .mv (.t 8)⟩, ⟨some 41, none, .bin .add (.t 40) (.c (.int .i64 1))⟩, ⟨some 8, none, .mv (.t 41)⟩])))))) (.seq (.reg [⟨some 84, none, .mv (.t 4)⟩, ⟨some 85, none, .len (.t 84)⟩, ⟨some 86, none, .mv (.t 3)⟩, ⟨some 87, none, .len (.t 86)⟩, ⟨some 88, none, .bin .eql (.t 85) (.t 87)⟩, ⟨some 2, none, .mv (.t 88)⟩]) .ret)))))))))
theorem code_laws_FnTimesAll : HasCode Try.prog fn_laws_FnTimesAll mc_laws_FnTimesAll [.t 2] 89 := ⟨mixed, Try.f4, _, Try.func4, rfl, by kernel_rfl, by kernel_rfl, rfl, by kernel_rfl⟩

def mc_impl_ValidOdds : MC :=
  .seq (.reg [⟨some 2, none, .mv (.c (.bool false))⟩]) (.seq (.seq (.reg [⟨some 5, none, .mv (.t 0)⟩, ⟨some 6, none, .len (.t 5)⟩, ⟨some 7, none, .bin .lss (.t 6) (.c (.int .i64 1))⟩, ⟨some 8, none, .mv (.t 7)⟩, ⟨some 9, some (8, false), .mv (.t 0)⟩, ⟨some 10, some (8, false), .len (.t 9)⟩, ⟨some 11, some (8, false), .bin .gtr (.t 10) (.c (.int .i64 6))⟩, ⟨some 12, none, .pick (.t 8) (.c (.bool true)) (.t 11)⟩]) (.cond (.t 12) (.seq (.reg [⟨some 2, none, .mv (.c (.bool false))⟩]) .ret) .skip)) (.seq (.seq (.reg [⟨some 13, none, .mv (.t 0)⟩, ⟨some 14, none, .len (.t 13)⟩, ⟨some 15, none, .mv (.c (.int .i64 0))⟩]) (.block 0 (.loop (.seq (.reg [⟨some 16, none, .bin .lss (.t 15) (.t 14)⟩]) (.seq (.cond (.t 16) .skip (.exit 0)) (.seq (.block 1 (.seq (.reg [⟨some 17, none, .ixa (.t 13) (.t 15) 1⟩, ⟨some 18, none, .ld (.t 17) 1 false⟩, ⟨some 4, none, .mv (.t 18)⟩]) (.seq (.reg [⟨some 19, none, .mv (.t 4)⟩, ⟨some 20, none, .call fn_impl_validOdd [.t 19]⟩, ⟨some 21, none, .un .not (.t 20)⟩]) (.cond (.t 21) (.seq (.reg [⟨some 2, none, .mv (.c (.bool false))⟩]) .ret) .skip)))) (.reg [⟨some 22, none, .bin .add (.t 15) (.c (.int .i64 1))⟩, ⟨some 15, none, .mv (.t 22)⟩]))))))) (.seq (.reg [⟨some 2, none, .mv (.c (.bool true))⟩]) .ret)))
theorem code_impl_ValidOdds : HasCode Try.prog fn_impl_ValidOdds mc_impl_ValidOdds [.t 2] 23 := ⟨mixed, Try.f18, _, Try.func18, rfl, by kernel_rfl, by kernel_rfl, rfl, by kernel_rfl⟩

def mc_spec_DrawTimesAll : MC :=
  .seq (.reg [⟨some 2, none, .mv (.c .nilSlice)⟩]) (.seq (.reg [⟨some 3, none, .mv (.t 0)⟩, ⟨some 4, none, .call fn_spec_newReader [.t 3]⟩, ⟨some 5, none, .call fn_spec_someOdds [.t 4]⟩, ⟨some 2, none, .mv (.t 5)⟩]) .ret)
theorem code_spec_DrawTimesAll : HasCode Try.prog fn_spec_DrawTimesAll mc_spec_DrawTimesAll [.t 2] 6 := ⟨mixed, Try.f20, _, Try.func20, rfl, by kernel_rfl, by kernel_rfl, rfl, by kernel_rfl⟩

def mc_impl_TimesAll : MC :=
  .seq (.reg [⟨some 2, none, .mv (.c .nilSlice)⟩]) (.seq (.reg [⟨some 3, none, .mv (.t 0)⟩, ⟨some 4, none, .bld [] []⟩, ⟨some 5, none, .mki 45 (.t 4)⟩, ⟨some 6, none, .call fn_impl_setRight [.t 3, .t 5]⟩, ⟨some 2, none, .mv (.t 6)⟩]) .ret)
theorem code_impl_TimesAll : HasCode Try.prog fn_impl_TimesAll mc_impl_TimesAll [.t 2] 7 := ⟨mixed, Try.f21, _, Try.func21, rfl, by kernel_rfl, by kernel_rfl, rfl, by kernel_rfl⟩

def mc_laws_equalInts : MC :=
  .seq (.reg [⟨some 4, none, .mv (.c (.bool false))⟩]) (.seq (.seq (.reg [⟨some 6, none, .mv (.t 0)⟩, ⟨some 7, none, .len (.t 6)⟩, ⟨some 8, none, .mv (.t 1)⟩, ⟨some 9, none, .len (.t 8)⟩, ⟨some 10, none, .bin .neq (.t 7) (.t 9)⟩]) (.cond (.t 10) (.seq (.reg [⟨some 4, none, .mv (.c (.bool false))⟩]) .ret) .skip)) (.seq (.seq (.reg [⟨some 5, none, .mv (.c (.int .i64 0))⟩]) (.block 0 (.loop (.seq (.seq (.reg [⟨some 11, none, .mv (.t 5)⟩, ⟨some 12, none, .mv (.t 0)⟩, ⟨some 13, none, .len (.t 12)⟩, ⟨some 14, none, .bin .lss (.t 11) (.t 13)⟩]) (.cond (.t 14) .skip (.exit 0))) (.seq (.block 1 (.seq (.drq [⟨some 17, none, .mv (.t 0)⟩, ⟨some 18, none, .mv (.t 5)⟩, ⟨some 19, none, .ixa (.t 17) (.t 18) 1⟩, ⟨some 20, none, .ld (.t 19) 1 false⟩, ⟨some 21, none, .mv (.t 1)⟩, ⟨some 22, none, .mv (.t 5)⟩, ⟨some 23, none, .ixa (.t 21) (.t 22) 1⟩, ⟨some 24, none, .ld (.t 23) 1 false⟩, ⟨some 25, none, .bin .neq (.t 20) (.t 24)⟩]) (.cond (.t 25) (.seq (.reg [⟨some 4, none, .mv (.c (.bool false))⟩]) .ret) .skip))) (.reg [⟨some 15, none, .mv (.t 5)⟩, ⟨some 16, none, .bin .add (.t 15) (.c (.int .i64 1))⟩, ⟨some 5, none, .mv (.t 16)⟩])))))) (.seq (.reg [⟨some 4, none, .mv (.c (.bool true))⟩]) .ret)))
theorem code_laws_equalInts : HasCode Try.prog fn_laws_equalInts mc_laws_equalInts [.t 4] 26 := ⟨mixed, Try.f22, _, Try.func22, rfl, by kernel_rfl, by kernel_rfl, rfl, by kernel_rfl⟩

def mc_spec_TimesAll : MC :=
  .seq (.reg [⟨some 2, none, .mv (.c .nilSlice)⟩]) (.seq (.seq (.reg [⟨some 5, none, .mv (.t 0)⟩, ⟨some 6, none, .call fn_spec_validOdds [.t 5]⟩, ⟨some 7, none, .un .not (.t 6)⟩]) (.cond (.t 7) (.seq (.reg [⟨some 2, none, .mv (.c .nilSlice)⟩]) .ret) .skip)) (.seq (.reg [⟨some 8, none, .bsl 0 1 [.int .i64 0] []⟩, ⟨some 3, none, .mv (.t 8)⟩]) (.seq (.seq (.reg [⟨some 4, none, .mv (.c (.int .i64 0))⟩]) (.block 0 (.loop (.seq (.seq (.reg [⟨some 9, none, .mv (.t 4)⟩, ⟨some 10, none, .mv (.t 0)⟩, ⟨some 11, none, .len (.t 10)⟩, ⟨some 12, none, .bin .lss (.t 9) (.t 11)⟩]) (.cond (.t 12) .skip (.exit 0))) (.seq (.block 1 (.reg [⟨some 15, none, .mv (.t 3)⟩, ⟨some 16, none, .mv (.t 0)⟩, ⟨some 17, none, .mv (.t 4)⟩, ⟨some 18, none, .ixa (.t 16) (.t 17) 1⟩, ⟨some 19, none, .ld (.t 18) 1 false⟩, ⟨some 20, none, .mv (.t 0)⟩, ⟨some 21, none, .len (.t 20)⟩, ⟨some 22, none, .bin .mul (.t 19) (.t 21)⟩, ⟨some 23, none, .mnmx false (.t 22) [.c (.int .i64 1000)]⟩, ⟨some 24, none, .bsl 1 1 [.int .i64 0] [(0, .t 23)]⟩, ⟨some 25, none, .app (.t 15) (.t 24) 1 8⟩, ⟨some 3, none, .mv (.t 25)⟩])) (.reg [⟨some 13, none, .mv (.t 4)⟩, ⟨some 14, none, .bin .add (.t 13) (.c (.int .i64 1))⟩, ⟨some 4, none, .mv (.t 14)⟩])))))) (.seq (.reg [⟨some 26, none, .mv (.t 3)⟩, ⟨some 2, none, .mv (.t 26)⟩]) .ret))))
theorem code_spec_TimesAll : HasCode Try.prog fn_spec_TimesAll mc_spec_TimesAll [.t 2] 27 := ⟨mixed, Try.f23, _, Try.func23, rfl, by kernel_rfl, by kernel_rfl, rfl, by kernel_rfl⟩

def mc_impl_StepDown : MC :=
  .seq (.reg [⟨some 2, none, .mv (.c .nilSlice)⟩]) (.seq (.reg [⟨some 3, none, .mv (.t 0)⟩, ⟨some 4, none, .bld [] []⟩, ⟨some 5, none, .mki 46 (.t 4)⟩, ⟨some 6, none, .call fn_impl_setRight [.t 3, .t 5]⟩, ⟨some 2, none, .mv (.t 6)⟩]) .ret)
theorem code_impl_StepDown : HasCode Try.prog fn_impl_StepDown mc_impl_StepDown [.t 2] 7 := ⟨mixed, Try.f24, _, Try.func24, rfl, by kernel_rfl, by kernel_rfl, rfl, by kernel_rfl⟩

def mc_impl_StepUp : MC :=
  .seq (.reg [⟨some 2, none, .mv (.c .nilSlice)⟩]) (.seq (.reg [⟨some 3, none, .mv (.t 0)⟩, ⟨some 4, none, .bld [] []⟩, ⟨some 5, none, .mki 47 (.t 4)⟩, ⟨some 6, none, .call fn_impl_setRight [.t 3, .t 5]⟩, ⟨some 2, none, .mv (.t 6)⟩]) .ret)
theorem code_impl_StepUp : HasCode Try.prog fn_impl_StepUp mc_impl_StepUp [.t 2] 7 := ⟨mixed, Try.f25, _, Try.func25, rfl, by kernel_rfl, by kernel_rfl, rfl, by kernel_rfl⟩

def mc_impl_FalseShare : MC :=
  .seq (.reg [⟨some 2, none, .mv (.c .nilSlice)⟩]) (.seq (.reg [⟨some 3, none, .mv (.t 0)⟩, ⟨some 4, none, .bld [] []⟩, ⟨some 5, none, .mki 48 (.t 4)⟩, ⟨some 6, none, .call fn_impl_setRight [.t 3, .t 5]⟩, ⟨some 2, none, .mv (.t 6)⟩]) .ret)
theorem code_impl_FalseShare : HasCode Try.prog fn_impl_FalseShare mc_impl_FalseShare [.t 2] 7 := ⟨mixed, Try.f26, _, Try.func26, rfl, by kernel_rfl, by kernel_rfl, rfl, by kernel_rfl⟩

def mc_spec_someOdds : MC :=
  .seq (.reg [⟨some 2, none, .mv (.c .nilSlice)⟩]) (.seq (.reg [⟨some 5, none, .bsl 0 1 [.int .i64 0] []⟩, ⟨some 3, none, .mv (.t 5)⟩]) (.seq (.seq (.reg [⟨some 6, none, .mv (.t 0)⟩, ⟨some 7, none, .bsl 7 1 [.int .i64 0] [(0, .c (.int .i64 3)), (1, .c (.int .i64 4)), (2, .c (.int .i64 5)), (3, .c (.int .i64 2)), (4, .c (.int .i64 6)), (5, .c (.int .i64 1)), (6, .c (.int .i64 0))]⟩, ⟨some 8, none, .call fn_spec_reader_one [.t 6, .t 7]⟩, ⟨some 4, none, .mv (.t 8)⟩]) (.block 0 (.loop (.seq (.seq (.reg [⟨some 9, none, .mv (.t 3)⟩, ⟨some 10, none, .len (.t 9)⟩, ⟨some 11, none, .mv (.t 4)⟩, ⟨some 12, none, .bin .lss (.t 10) (.t 11)⟩]) (.cond (.t 12) .skip (.exit 0))) (.block 1 (.reg [⟨some 13, none, .mv (.t 3)⟩, ⟨some 14, none, .mv (.t 0)⟩, ⟨some 15, none, .mv (.t 0)⟩, ⟨some 16, none, .call fn_spec_reader_pick [.t 15, .c (.int .i64 60)]⟩, ⟨some 17, none, .mv (.t 0)⟩, ⟨some 18, none, .call fn_spec_reader_pick [.t 17, .c (.int .i64 20)]⟩, ⟨some 19, none, .mv (.t 0)⟩, ⟨some 20, none, .call fn_spec_reader_pick [.t 19, .c (.int .i64 250)]⟩, ⟨some 21, none, .bin .mul (.c (.int .i64 4)) (.t 20)⟩, ⟨some 22, none, .bsl 6 1 [.int .i64 0] [(0, .t 16), (1, .t 18), (2, .t 21), (3, .c (.int .i64 10)), (4, .c (.int .i64 0)), (5, .c (.int .i64 1000))]⟩, ⟨some 23, none, .call fn_spec_reader_one [.t 14, .t 22]⟩, ⟨some 24, none, .bsl 1 1 [.int .i64 0] [(0, .t 23)]⟩, ⟨some 25, none, .app (.t 13) (.t 24) 1 8⟩, ⟨some 3, none, .mv (.t 25)⟩])))))) (.seq (.seq (.reg [⟨some 26, none, .mv (.t 0)⟩, ⟨some 27, none, .call fn_spec_reader_pick [.t 26, .c (.int .i64 30)]⟩, ⟨some 28, none, .bin .eql (.t 27) (.c (.int .i64 0))⟩]) (.cond (.t 28) (.seq (.reg [⟨some 29, none, .mv (.t 3)⟩, ⟨some 30, none, .mv (.t 0)⟩, ⟨some 31, none, .bsl 2 1 [.int .i64 0] [(0, .c (.int .i64 1001)), (1, .c (.int .i64 (-1)))]⟩, ⟨some 32, none, .call fn_spec_reader_one [.t 30, .t 31]⟩, ⟨some 33, none, .bsl 1 1 [.int .i64 0] [(0, .t 32)]⟩, ⟨some 34, none, .app (.t 29) (.t 33) 1 8⟩, ⟨some 2, none, .mv (.t 34)⟩]) .ret) .skip)) (.seq (.reg [⟨some 35, none, .mv (.t 3)⟩, ⟨some 2, none, .mv (.t 35)⟩]) .ret))))
theorem code_spec_someOdds : HasCode Try.prog fn_spec_someOdds mc_spec_someOdds [.t 2] 36 := ⟨mixed, Try.f46, _, Try.func46, rfl, by kernel_rfl, by kernel_rfl, rfl, by kernel_rfl⟩

def mc_spec_newReader : MC :=
  .seq (.reg [⟨some 2, none, .mv (.c .nilPtr)⟩]) (.seq (.seq (.reg [⟨some 3, none, .mv (.t 0)⟩, ⟨some 4, none, .len (.t 3)⟩, ⟨some 5, none, .bin .gtr (.t 4) (.c (.int .i64 2000))⟩]) (.cond (.t 5) (.reg [⟨some 6, none, .mv (.t 0)⟩, ⟨some 7, none, .sl (.t 6) none (some (.c (.int .i64 2000))) none 1⟩, ⟨some 0, none, .mv (.t 7)⟩]) .skip)) (.seq (.reg [⟨some 8, none, .mv (.t 0)⟩, ⟨some 9, none, .bld [.nilSlice, .int .i64 0] [(0, 1, .t 8)]⟩, ⟨some 10, none, .box (.t 9)⟩, ⟨some 2, none, .mv (.t 10)⟩]) .ret))
theorem code_spec_newReader : HasCode Try.prog fn_spec_newReader mc_spec_newReader [.t 2] 11 := ⟨mixed, Try.f47, _, Try.func47, rfl, by kernel_rfl, by kernel_rfl, rfl, by kernel_rfl⟩

def mc_impl_validOdd : MC :=
  .seq (.reg [⟨some 2, none, .mv (.c (.bool false))⟩]) (.seq (.reg [⟨some 3, none, .mv (.t 0)⟩, ⟨some 4, none, .bin .geq (.t 3) (.c (.int .i64 0))⟩, ⟨some 5, none, .mv (.t 4)⟩, ⟨some 6, some (5, true), .mv (.t 0)⟩, ⟨some 7, some (5, true), .bin .leq (.t 6) (.c (.int .i64 1000))⟩, ⟨some 8, none, .pick (.t 5) (.t 7) (.c (.bool false))⟩, ⟨some 2, none, .mv (.t 8)⟩]) .ret)
theorem code_impl_validOdd : HasCode Try.prog fn_impl_validOdd mc_impl_validOdd [.t 2] 9 := ⟨mixed, Try.f48, _, Try.func48, rfl, by kernel_rfl, by kernel_rfl, rfl, by kernel_rfl⟩

def mc_spec_validOdds : MC :=
  .seq (.reg [⟨some 2, none, .mv (.c (.bool false))⟩]) (.seq (.seq (.reg [⟨some 3, none, .mv (.c (.int .i64 0))⟩]) (.block 0 (.loop (.seq (.seq (.reg [⟨some 4, none, .mv (.t 3)⟩, ⟨some 5, none, .mv (.t 0)⟩, ⟨some 6, none, .len (.t 5)⟩, ⟨some 7, none, .bin .lss (.t 4) (.t 6)⟩]) (.cond (.t 7) .skip (.exit 0))) (.seq (.block 1 (.seq (.reg [⟨some 10, none, .mv (.t 0)⟩, ⟨some 11, none, .mv (.t 3)⟩, ⟨some 12, none, .ixa (.t 10) (.t 11) 1⟩, ⟨some 13, none, .ld (.t 12) 1 false⟩, ⟨some 14, none, .call fn_spec_inRange [.t 13, .c (.int .i64 0), .c (.int .i64 1000)]⟩, ⟨some 15, none, .un .not (.t 14)⟩]) (.cond (.t 15) (.seq (.reg [⟨some 2, none, .mv (.c (.bool false))⟩]) .ret) .skip))) (.reg [⟨some 8, none, .mv (.t 3)⟩, ⟨some 9, none, .bin .add (.t 8) (.c (.int .i64 1))⟩, ⟨some 3, none, .mv (.t 9)⟩])))))) (.seq (.reg [⟨some 16, none, .mv (.t 0)⟩, ⟨some 17, none, .len (.t 16)⟩, ⟨some 18, none, .call fn_spec_inRange [.t 17, .c (.int .i64 1), .c (.int .i64 6)]⟩, ⟨some 2, none, .mv (.t 18)⟩]) .ret))
theorem code_spec_validOdds : HasCode Try.prog fn_spec_validOdds mc_spec_validOdds [.t 2] 19 := ⟨mixed, Try.f49, _, Try.func49, rfl, by kernel_rfl, by kernel_rfl, rfl, by kernel_rfl⟩

def mc_impl_setRight : MC :=
  .seq (.reg [⟨some 4, none, .mv (.c .nilSlice)⟩]) (.seq (.seq (.reg [⟨some 11, none, .mv (.t 0)⟩, ⟨some 12, none, .call fn_impl_ValidOdds [.t 11]⟩, ⟨some 13, none, .un .not (.t 12)⟩]) (.cond (.t 13) (.seq (.reg [⟨some 4, none, .mv (.c .nilSlice)⟩]) .ret) .skip)) (.seq (.reg [⟨some 14, none, .mv (.t 0)⟩, ⟨some 15, none, .call fn_impl_bySize [.t 14]⟩, ⟨some 5, none, .mv (.t 15)⟩]) (.seq (.reg [⟨some 16, none, .mv (.t 0)⟩, ⟨some 17, none, .len (.t 16)⟩, ⟨some 18, none, .mks (.t 17) (.t 17) [.int .i64 0] 1 8⟩, ⟨some 6, none, .mv (.t 18)⟩]) (.seq (.seq (.reg [⟨some 19, none, .mv (.t 5)⟩, ⟨some 20, none, .len (.t 19)⟩, ⟨some 21, none, .mv (.c (.int .i64 0))⟩]) (.block 0 (.loop (.seq (.reg [⟨some 22, none, .bin .lss (.t 21) (.t 20)⟩]) (.seq (.cond (.t 22) .skip (.exit 0)) (.seq (.block 1 (.seq (.reg [⟨some 23, none, .mv (.t 21)⟩, ⟨some 24, none, .ixa (.t 19) (.t 21) 1⟩, ⟨some 25, none, .ld (.t 24) 1 false⟩, ⟨some 7, none, .mv (.t 23)⟩, ⟨some 8, none, .mv (.t 25)⟩]) (.drc [⟨some 26, none, .mv (.t 6)⟩, ⟨some 27, none, .mv (.t 8)⟩, ⟨some 28, none, .mv (.t 1)⟩, ⟨some 29, none, .mv (.t 0)⟩, ⟨some 30, none, .mv (.t 8)⟩, ⟨some 31, none, .ixa (.t 29) (.t 30) 1⟩, ⟨some 32, none, .ld (.t 31) 1 false⟩, ⟨some 33, none, .mv (.t 0)⟩, ⟨some 34, none, .len (.t 33)⟩, ⟨some 35, none, .mv (.t 7)⟩, ⟨some 36, none, .mkm "loop.example/countedchances/impl.raised" (.t 28)⟩, ⟨some 37, none, .nilckm (.t 36) [("Error", [8, 10, 11, 14, 15, 16, 19]), ("RuntimeError", [8, 10, 11, 14, 15, 16, 19]), ("Align", [17]), ("loop.example/countedchances/spec.of", [40]), ("loop.example/countedchances/spec.one", [40]), ("loop.example/countedchances/spec.pick", [40]), ("loop.example/countedchances/impl.raised", [45, 46, 47, 48]), ("loop.example/countedchances/impl.has", [50]), ("Next", [91]), ("String", [102])]⟩, ⟨some 38, none, .mv (.t 28)⟩, ⟨some 39, none, .inv [(45, fn_impl_allAtOnce_raised), (46, fn_impl_stepsDown_raised), (47, fn_impl_stepsUp_raised), (48, fn_impl_shares_raised)] (.t 38) [.t 32, .t 34, .t 35]⟩, ⟨some 40, none, .mnmx false (.t 39) [.c (.int .i64 1000)]⟩, ⟨some 41, none, .ixa (.t 26) (.t 27) 1⟩, ⟨none, none, .st (.t 41) (.t 40) 1⟩] []))) (.reg [⟨some 42, none, .bin .add (.t 21) (.c (.int .i64 1))⟩, ⟨some 21, none, .mv (.t 42)⟩]))))))) (.seq (.seq (.reg [⟨some 43, none, .mv (.t 1)⟩]) (.block 2 (.seq (.reg [⟨some 44, none, .tas (.t 43) 46 true (.agg [])⟩, ⟨some 45, none, .ext (.t 44) 1⟩, ⟨some 46, none, .ext (.t 44) 0⟩]) (.cond (.t 45) (.seq (.reg [⟨some 9, none, .mv (.c (.int .i64 1))⟩]) (.block 3 (.loop (.seq (.seq (.reg [⟨some 47, none, .mv (.t 9)⟩, ⟨some 48, none, .mv (.t 5)⟩, ⟨some 49, none, .len (.t 48)⟩, ⟨some 50, none, .bin .lss (.t 47) (.t 49)⟩]) (.cond (.t 50) .skip (.exit 3))) (.seq (.block 4 (.drw [⟨some 53, none, .mv (.t 6)⟩, ⟨some 54, none, .mv (.t 5)⟩, ⟨some 55, none, .mv (.t 9)⟩, ⟨some 56, none, .ixa (.t 54) (.t 55) 1⟩, ⟨some 57, none, .ld (.t 56) 1 false⟩, ⟨some 58, none, .mv (.t 6)⟩, ⟨some 59, none, .mv (.t 5)⟩, ⟨some 60, none, .mv (.t 9)⟩, ⟨some 61, none, .ixa (.t 59) (.t 60) 1⟩, ⟨some 62, none, .ld (.t 61) 1 false⟩, ⟨some 63, none, .ixa (.t 58) (.t 62) 1⟩, ⟨some 64, none, .ld (.t 63) 1 false⟩, ⟨some 65, none, .mv (.t 6)⟩, ⟨some 66, none, .mv (.t 5)⟩, ⟨some 67, none, .mv (.t 9)⟩, ⟨some 68, none, .bin .sub (.t 67) (.c (.int .i64 1))⟩, ⟨some 69, none, .ixa (.t 66) (.t 68) 1⟩, ⟨some 70, none, .ld (.t 69) 1 false⟩, ⟨some 71, none, .ixa (.t 65) (.t 70) 1⟩, ⟨some 72, none, .ld (.t 71) 1 false⟩, ⟨some 73, none, .mnmx true (.t 64) [.t 72]⟩, ⟨some 74, none, .ixa (.t 53) (.t 57) 1⟩, ⟨none, none, .st (.t 74) (.t 73) 1⟩] [])) (.reg [⟨some 51, none, .mv (.t 9)⟩, ⟨some 52, none, .bin .add (.t 51) (.c (.int .i64 1))⟩, ⟨some 9, none, .mv (.t 52)⟩])))))) (.seq (.reg [⟨some 75, none, .tas (.t 43) 47 true (.agg [])⟩, ⟨some 76, none, .ext (.t 75) 1⟩, ⟨some 77, none, .ext (.t 75) 0⟩, ⟨some 78, none, .tas (.t 43) 48 true (.agg [])⟩, ⟨some 79, none, .ext (.t 78) 1⟩, ⟨some 80, none, .ext (.t 78) 0⟩, ⟨some 81, none, .pick (.t 76) (.c (.bool true)) (.t 79)⟩]) (.cond (.t 81) (.seq (.reg [⟨some 82, none, .mv (.t 5)⟩, ⟨some 83, none, .len (.t 82)⟩, ⟨some 84, none, .bin .sub (.t 83) (.c (.int .i64 1))⟩, ⟨some 10, none, .mv (.t 84)⟩]) (.block 5 (.loop (.seq (.seq (.reg [⟨some 85, none, .mv (.t 10)⟩, ⟨some 86, none, .bin .gtr (.t 85) (.c (.int .i64 0))⟩]) (.cond (.t 86) .skip (.exit 5))) (.seq (.block 6 (.drw [⟨some 89, none, .mv (.t 6)⟩, ⟨some 90, none, .mv (.t 5)⟩, ⟨some 91, none, .mv (.t 10)⟩, ⟨some 92, none, .bin .sub (.t 91) (.c (.int .i64 1))⟩, ⟨some 93, none, .ixa (.t 90) (.t 92) 1⟩, ⟨some 94, none, .ld (.t 93) 1 false⟩, ⟨some 95, none, .mv (.t 6)⟩, ⟨some 96, none, .mv (.t 5)⟩, ⟨some 97, none, .mv (.t 10)⟩, ⟨some 98, none, .bin .sub (.t 97) (.c (.int .i64 1))⟩, ⟨some 99, none, .ixa (.t 96) (.t 98) 1⟩, ⟨some 100, none, .ld (.t 99) 1 false⟩, ⟨some 101, none, .ixa (.t 95) (.t 100) 1⟩, ⟨some 102, none, .ld (.t 101) 1 false⟩, ⟨some 103, none, .mv (.t 6)⟩, ⟨some 104, none, .mv (.t 5)⟩, ⟨some 105, none, .mv (.t 10)⟩, ⟨some 106, none, .ixa (.t 104) (.t 105) 1⟩, ⟨some 107, none, .ld (.t 106) 1 false⟩, ⟨some 108, none, .ixa (.t 103) (.t 107) 1⟩, ⟨some 109, none, .ld (.t 108) 1 false⟩, ⟨some 110, none, .mnmx false (.t 102) [.t 109]⟩, ⟨some 111, none, .ixa (.t 89) (.t 94) 1⟩, ⟨none, none, .st (.t 111) (.t 110) 1⟩] [])) (.reg [⟨some 87, none, .mv (.t 10)⟩, ⟨some 88, none, .bin .sub (.t 87) (.c (.int .i64 1))⟩, ⟨some 10, none, .mv (.t 88)⟩])))))) .skip)))))) (.seq (.reg [⟨some 112, none, .mv (.t 6)⟩, ⟨some 4, none, .mv (.t 112)⟩]) .ret))))))
theorem code_impl_setRight : HasCode Try.prog fn_impl_setRight mc_impl_setRight [.t 4] 113 := ⟨mixed, Try.f50, _, Try.func50, rfl, by kernel_rfl, by kernel_rfl, rfl, by kernel_rfl⟩

def mc_spec_reader_one : MC :=
  .seq (.reg [⟨some 4, none, .mv (.c (.int .i64 0))⟩]) (.seq (.reg [⟨some 5, none, .mv (.t 1)⟩, ⟨some 6, none, .mv (.t 0)⟩, ⟨some 7, none, .mv (.t 1)⟩, ⟨some 8, none, .len (.t 7)⟩, ⟨some 9, none, .call fn_spec_reader_pick [.t 6, .t 8]⟩, ⟨some 10, none, .ixa (.t 5) (.t 9) 1⟩, ⟨some 11, none, .ld (.t 10) 1 false⟩, ⟨some 4, none, .mv (.t 11)⟩]) .ret)
theorem code_spec_reader_one : HasCode Try.prog fn_spec_reader_one mc_spec_reader_one [.t 4] 12 := ⟨mixed, Try.f58, _, Try.func58, rfl, by kernel_rfl, by kernel_rfl, rfl, by kernel_rfl⟩

def mc_spec_reader_pick : MC :=
  .seq (.reg [⟨some 4, none, .mv (.c (.int .i64 0))⟩]) (.seq (.reg [⟨some 7, none, .mv (.t 0)⟩, ⟨some 8, none, .mv (.t 0)⟩, ⟨some 9, none, .nilck (.t 8)⟩, ⟨some 10, none, .fa (.t 9) 1⟩, ⟨some 11, none, .ld (.t 10) 1 false⟩, ⟨some 12, none, .bin .add (.t 11) (.c (.int .i64 1))⟩, ⟨some 13, none, .nilck (.t 7)⟩, ⟨some 14, none, .fa (.t 13) 1⟩, ⟨none, none, .st (.t 14) (.t 12) 1⟩]) (.seq (.seq (.reg [⟨some 15, none, .mv (.t 1)⟩, ⟨some 16, none, .bin .lss (.t 15) (.c (.int .i64 1))⟩, ⟨some 17, none, .mv (.t 16)⟩, ⟨some 18, some (17, false), .mv (.t 0)⟩, ⟨some 19, some (17, false), .nilck (.t 18)⟩, ⟨some 20, some (17, false), .fa (.t 19) 0⟩, ⟨some 21, some (17, false), .ld (.t 20) 1 false⟩, ⟨some 22, some (17, false), .len (.t 21)⟩, ⟨some 23, some (17, false), .bin .eql (.t 22) (.c (.int .i64 0))⟩, ⟨some 24, none, .pick (.t 17) (.c (.bool true)) (.t 23)⟩]) (.cond (.t 24) (.seq (.reg [⟨some 4, none, .mv (.c (.int .i64 0))⟩]) .ret) .skip)) (.seq (.reg [⟨some 25, none, .mv (.t 0)⟩, ⟨some 26, none, .nilck (.t 25)⟩, ⟨some 27, none, .fa (.t 26) 1⟩, ⟨some 28, none, .ld (.t 27) 1 false⟩, ⟨some 29, none, .bin .sub (.t 28) (.c (.int .i64 1))⟩, ⟨some 5, none, .mv (.t 29)⟩]) (.seq (.seq (.reg [⟨some 30, none, .mv (.t 5)⟩, ⟨some 31, none, .mv (.t 0)⟩, ⟨some 32, none, .nilck (.t 31)⟩, ⟨some 33, none, .fa (.t 32) 0⟩, ⟨some 34, none, .ld (.t 33) 1 false⟩, ⟨some 35, none, .len (.t 34)⟩, ⟨some 36, none, .bin .lss (.t 30) (.t 35)⟩]) (.cond (.t 36) (.seq (.reg [⟨some 37, none, .mv (.t 0)⟩, ⟨some 38, none, .nilck (.t 37)⟩, ⟨some 39, none, .fa (.t 38) 0⟩, ⟨some 40, none, .ld (.t 39) 1 false⟩, ⟨some 41, none, .mv (.t 5)⟩, ⟨some 42, none, .ixa (.t 40) (.t 41) 1⟩, ⟨some 43, none, .ld (.t 42) 1 false⟩, ⟨some 44, none, .conv .i64 (.t 43)⟩, ⟨some 45, none, .mv (.t 1)⟩, ⟨some 46, none, .bin .rem (.t 44) (.t 45)⟩, ⟨some 4, none, .mv (.t 46)⟩]) .ret) .skip)) (.seq (.drq [⟨some 47, none, .mv (.t 0)⟩, ⟨some 48, none, .nilck (.t 47)⟩, ⟨some 49, none, .fa (.t 48) 0⟩, ⟨some 50, none, .ld (.t 49) 1 false⟩, ⟨some 51, none, .mv (.t 5)⟩, ⟨some 52, none, .mv (.t 0)⟩, ⟨some 53, none, .nilck (.t 52)⟩, ⟨some 54, none, .fa (.t 53) 0⟩, ⟨some 55, none, .ld (.t 54) 1 false⟩, ⟨some 56, none, .len (.t 55)⟩, ⟨some 57, none, .bin .rem (.t 51) (.t 56)⟩, ⟨some 58, none, .ixa (.t 50) (.t 57) 1⟩, ⟨some 59, none, .ld (.t 58) 1 false⟩, ⟨some 60, none, .conv .i64 (.t 59)⟩, ⟨some 61, none, .bin .mul (.t 60) (.c (.int .i64 131))⟩, ⟨some 62, none, .mv (.t 0)⟩, ⟨some 63, none, .nilck (.t 62)⟩, ⟨some 64, none, .fa (.t 63) 0⟩, ⟨some 65, none, .ld (.t 64) 1 false⟩, ⟨some 66, none, .mv (.t 5)⟩, ⟨some 67, none, .bin .mul (.t 66) (.c (.int .i64 7))⟩, ⟨some 68, none, .bin .add (.t 67) (.c (.int .i64 3))⟩, ⟨some 69, none, .mv (.t 0)⟩, ⟨some 70, none, .nilck (.t 69)⟩, ⟨some 71, none, .fa (.t 70) 0⟩, ⟨some 72, none, .ld (.t 71) 1 false⟩, ⟨some 73, none, .len (.t 72)⟩, ⟨some 74, none, .bin .rem (.t 68) (.t 73)⟩, ⟨some 75, none, .ixa (.t 65) (.t 74) 1⟩, ⟨some 76, none, .ld (.t 75) 1 false⟩, ⟨some 77, none, .conv .i64 (.t 76)⟩, ⟨some 78, none, .bin .mul (.t 77) (.c (.int .i64 1117))⟩, ⟨some 79, none, .bin .add (.t 61) (.t 78)⟩, ⟨some 80, none, .mv (.t 5)⟩, ⟨some 81, none, .bin .mul (.t 80) (.c (.int .i64 29))⟩, ⟨some 82, none, .bin .add (.t 79) (.t 81)⟩, ⟨some 83, none, .mv (.t 5)⟩, ⟨some 84, none, .mv (.t 0)⟩, ⟨some 85, none, .nilck (.t 84)⟩, ⟨some 86, none, .fa (.t 85) 0⟩, ⟨some 87, none, .ld (.t 86) 1 false⟩, ⟨some 88, none, .len (.t 87)⟩, ⟨some 89, none, .bin .quo (.t 83) (.t 88)⟩, ⟨some 90, none, .bin .mul (.t 89) (.c (.int .i64 53))⟩, ⟨some 91, none, .bin .add (.t 82) (.t 90)⟩, ⟨some 6, none, .mv (.t 91)⟩]) (.seq (.reg [⟨some 92, none, .mv (.t 6)⟩, ⟨some 93, none, .mv (.t 6)⟩, ⟨some 94, none, .bin .quo (.t 93) (.c (.int .i64 64))⟩, ⟨some 95, none, .bin .xor (.t 92) (.t 94)⟩, ⟨some 6, none, .mv (.t 95)⟩]) (.seq (.reg [⟨some 96, none, .mv (.t 6)⟩, ⟨some 97, none, .mv (.t 1)⟩, ⟨some 98, none, .bin .rem (.t 96) (.t 97)⟩, ⟨some 4, none, .mv (.t 98)⟩]) .ret)))))))
theorem code_spec_reader_pick : HasCode Try.prog fn_spec_reader_pick mc_spec_reader_pick [.t 4] 99 := ⟨mixed, Try.f59, _, Try.func59, rfl, by kernel_rfl, by kernel_rfl, rfl, by kernel_rfl⟩

def mc_spec_inRange : MC :=
  .seq (.reg [⟨some 6, none, .mv (.c (.bool false))⟩]) (.seq (.reg [⟨some 7, none, .mv (.t 1)⟩, ⟨some 8, none, .mv (.t 0)⟩, ⟨some 9, none, .bin .leq (.t 7) (.t 8)⟩, ⟨some 10, none, .mv (.t 9)⟩, ⟨some 11, some (10, true), .mv (.t 0)⟩, ⟨some 12, some (10, true), .mv (.t 2)⟩, ⟨some 13, some (10, true), .bin .leq (.t 11) (.t 12)⟩, ⟨some 14, none, .pick (.t 10) (.t 13) (.c (.bool false))⟩, ⟨some 6, none, .mv (.t 14)⟩]) .ret)
theorem code_spec_inRange : HasCode Try.prog fn_spec_inRange mc_spec_inRange [.t 6] 15 := ⟨mixed, Try.f61, _, Try.func61, rfl, by kernel_rfl, by kernel_rfl, rfl, by kernel_rfl⟩

def mc_impl_bySize : MC :=
  .seq (.reg [⟨some 1, none, .box (.t 0)⟩, ⟨some 2, none, .mv (.c .nilSlice)⟩]) (.seq (.reg [⟨some 5, none, .ld (.t 1) 1 false⟩, ⟨some 6, none, .len (.t 5)⟩, ⟨some 7, none, .mks (.t 6) (.t 6) [.int .i64 0] 1 8⟩, ⟨some 3, none, .mv (.t 7)⟩]) (.seq (.seq (.reg [⟨some 8, none, .mv (.t 3)⟩, ⟨some 9, none, .len (.t 8)⟩, ⟨some 10, none, .mv (.c (.int .i64 0))⟩]) (.block 0 (.loop (.seq (.reg [⟨some 11, none, .bin .lss (.t 10) (.t 9)⟩]) (.seq (.cond (.t 11) .skip (.exit 0)) (.seq (.block 1 (.seq (.reg [⟨some 12, none, .mv (.t 10)⟩, ⟨some 4, none, .mv (.t 12)⟩]) (.reg [⟨some 13, none, .mv (.t 3)⟩, ⟨some 14, none, .mv (.t 4)⟩, ⟨some 15, none, .mv (.t 4)⟩, ⟨some 16, none, .ixa (.t 13) (.t 14) 1⟩, ⟨none, none, .st (.t 16) (.t 15) 1⟩]))) (.reg [⟨some 17, none, .bin .add (.t 10) (.c (.int .i64 1))⟩, ⟨some 10, none, .mv (.t 17)⟩]))))))) (.seq (.reg [⟨some 18, none, .mv (.t 3)⟩, ⟨some 19, none, .mkf fn_impl_bySize_1 [.t 1]⟩, ⟨some 20, none, .call fn_slices_SortStableFunc_ints [.t 18, .t 19]⟩]) (.seq (.reg [⟨some 21, none, .mv (.t 3)⟩, ⟨some 2, none, .mv (.t 21)⟩]) .ret))))
theorem code_impl_bySize : HasCode Try.prog fn_impl_bySize mc_impl_bySize [.t 2] 22 := ⟨mixed, Try.f63, _, Try.func63, rfl, by kernel_rfl, by kernel_rfl, rfl, by kernel_rfl⟩

def mc_slices_SortStableFunc_ints : MC :=
  .reg [⟨some 4, none, .mv (.t 0)⟩, ⟨some 5, none, .mv (.t 0)⟩, ⟨some 6, none, .len (.t 5)⟩, ⟨some 7, none, .mv (.t 1)⟩, ⟨some 8, none, .call fn_slices_stableCmpFunc_int [.t 4, .t 6, .t 7]⟩]
theorem code_slices_SortStableFunc_ints : HasCode Try.prog fn_slices_SortStableFunc_ints mc_slices_SortStableFunc_ints [] 9 := ⟨mixed, Try.f68, _, Try.func68, rfl, by kernel_rfl, by kernel_rfl, rfl, by kernel_rfl⟩

def mc_impl_bySize_1 : MC :=
  .seq (.reg [⟨some 5, none, .mv (.c (.int .i64 0))⟩]) (.seq (.drq [⟨some 6, none, .ld (.t 2) 1 false⟩, ⟨some 7, none, .mv (.t 0)⟩, ⟨some 8, none, .ixa (.t 6) (.t 7) 1⟩, ⟨some 9, none, .ld (.t 8) 1 false⟩, ⟨some 10, none, .ld (.t 2) 1 false⟩, ⟨some 11, none, .mv (.t 1)⟩, ⟨some 12, none, .ixa (.t 10) (.t 11) 1⟩, ⟨some 13, none, .ld (.t 12) 1 false⟩, ⟨some 14, none, .call fn_cmp_Compare_int [.t 9, .t 13]⟩, ⟨some 5, none, .mv (.t 14)⟩]) .ret)
theorem code_impl_bySize_1 : HasCode Try.prog fn_impl_bySize_1 mc_impl_bySize_1 [.t 5] 15 := ⟨mixed, Try.f69, _, Try.func69, rfl, by kernel_rfl, by kernel_rfl, rfl, by kernel_rfl⟩

def mc_cmp_Compare_int : MC :=
  .seq (.reg [⟨some 4, none, .mv (.c (.int .i64 0))⟩]) (.seq (.reg [⟨some 7, none, .mv (.t 0)⟩, ⟨some 8, none, .call fn_cmp_isNaN_int [.t 7]⟩, ⟨some 5, none, .mv (.t 8)⟩]) (.seq (.reg [⟨some 9, none, .mv (.t 1)⟩, ⟨some 10, none, .call fn_cmp_isNaN_int [.t 9]⟩, ⟨some 6, none, .mv (.t 10)⟩]) (.seq (.seq (.reg [⟨some 11, none, .mv (.t 5)⟩]) (.cond (.t 11) (.seq (.seq (.reg [⟨some 12, none, .mv (.t 6)⟩]) (.cond (.t 12) (.seq (.reg [⟨some 4, none, .mv (.c (.int .i64 0))⟩]) .ret) .skip)) (.seq (.reg [⟨some 4, none, .mv (.c (.int .i64 (-1)))⟩]) .ret)) .skip)) (.seq (.seq (.reg [⟨some 13, none, .mv (.t 6)⟩]) (.cond (.t 13) (.seq (.reg [⟨some 4, none, .mv (.c (.int .i64 1))⟩]) .ret) .skip)) (.seq (.seq (.reg [⟨some 14, none, .mv (.t 0)⟩, ⟨some 15, none, .mv (.t 1)⟩, ⟨some 16, none, .bin .lss (.t 14) (.t 15)⟩]) (.cond (.t 16) (.seq (.reg [⟨some 4, none, .mv (.c (.int .i64 (-1)))⟩]) .ret) .skip)) (.seq (.seq (.reg [⟨some 17, none, .mv (.t 0)⟩, ⟨some 18, none, .mv (.t 1)⟩, ⟨some 19, none, .bin .gtr (.t 17) (.t 18)⟩]) (.cond (.t 19) (.seq (.reg [⟨some 4, none, .mv (.c (.int .i64 1))⟩]) .ret) .skip)) (.seq (.reg [⟨some 4, none, .mv (.c (.int .i64 0))⟩]) .ret)))))))
theorem code_cmp_Compare_int : HasCode Try.prog fn_cmp_Compare_int mc_cmp_Compare_int [.t 4] 20 := ⟨mixed, Try.f70, _, Try.func70, rfl, by kernel_rfl, by kernel_rfl, rfl, by kernel_rfl⟩

def mc_slices_stableCmpFunc_int : MC :=
  .seq (.reg [⟨some 6, none, .mv (.c (.int .i64 20))⟩]) (.seq (.reg [⟨some 10, none, .mv (.t 6)⟩, ⟨some 7, none, .mv (.c (.int .i64 0))⟩, ⟨some 8, none, .mv (.t 10)⟩]) (.seq (.block 0 (.loop (.seq (.seq (.reg [⟨some 11, none, .mv (.t 8)⟩, ⟨some 12, none, .mv (.t 1)⟩, ⟨some 13, none, .bin .leq (.t 11) (.t 12)⟩]) (.cond (.t 13) .skip (.exit 0))) (.block 1 (.seq (.reg [⟨some 14, none, .mv (.t 0)⟩, ⟨some 15, none, .mv (.t 7)⟩, ⟨some 16, none, .mv (.t 8)⟩, ⟨some 17, none, .mv (.t 2)⟩, ⟨some 18, none, .call fn_slices_insertionSortCmpFunc_int [.t 14, .t 15, .t 16, .t 17]⟩]) (.seq (.reg [⟨some 19, none, .mv (.t 8)⟩, ⟨some 7, none, .mv (.t 19)⟩]) (.reg [⟨some 20, none, .mv (.t 8)⟩, ⟨some 21, none, .mv (.t 6)⟩, ⟨some 22, none, .bin .add (.t 20) (.t 21)⟩, ⟨some 8, none, .mv (.t 22)⟩]))))))) (.seq (.reg [⟨some 23, none, .mv (.t 0)⟩, ⟨some 24, none, .mv (.t 7)⟩, ⟨some 25, none, .mv (.t 1)⟩, ⟨some 26, none, .mv (.t 2)⟩, ⟨some 27, none, .call fn_slices_insertionSortCmpFunc_int [.t 23, .t 24, .t 25, .t 26]⟩]) (.block 2 (.loop (.seq (.seq (.reg [⟨some 28, none, .mv (.t 6)⟩, ⟨some 29, none, .mv (.t 1)⟩, ⟨some 30, none, .bin .lss (.t 28) (.t 29)⟩]) (.cond (.t 30) .skip (.exit 2))) (.block 3 (.seq (.reg [⟨some 31, none, .mv (.t 6)⟩, ⟨some 32, none, .bin .mul (.c (.int .i64 2)) (.t 31)⟩, ⟨some 7, none, .mv (.c (.int .i64 0))⟩, ⟨some 8, none, .mv (.t 32)⟩]) (.seq (.block 4 (.loop (.seq (.seq (.reg [⟨some 33, none, .mv (.t 8)⟩, ⟨some 34, none, .mv (.t 1)⟩, ⟨some 35, none, .bin .leq (.t 33) (.t 34)⟩]) (.cond (.t 35) .skip (.exit 4))) (.block 5 (.seq (.reg [⟨some 36, none, .mv (.t 0)⟩, ⟨some 37, none, .mv (.t 7)⟩, ⟨some 38, none, .mv (.t 7)⟩, ⟨some 39, none, .mv (.t 6)⟩, ⟨some 40, none, .bin .add (.t 38) (.t 39)⟩, ⟨some 41, none, .mv (.t 8)⟩, ⟨some 42, none, .mv (.t 2)⟩, ⟨some 43, none, .call fn_slices_symMergeCmpFunc_int [.t 36, .t 37, .t 40, .t 41, .t 42]⟩]) (.seq (.reg [⟨some 44, none, .mv (.t 8)⟩, ⟨some 7, none, .mv (.t 44)⟩]) (.reg [⟨some 45, none, .mv (.t 8)⟩, ⟨some 46, none, .mv (.t 6)⟩, ⟨some 47, none, .bin .mul (.c (.int .i64 2)) (.t 46)⟩, ⟨some 48, none, .bin .add (.t 45) (.t 47)⟩, ⟨some 8, none, .mv (.t 48)⟩]))))))) (.seq (.seq (.reg [⟨some 49, none, .mv (.t 7)⟩, ⟨some 50, none, .mv (.t 6)⟩, ⟨some 51, none, .bin .add (.t 49) (.t 50)⟩, ⟨some 9, none, .mv (.t 51)⟩]) (.seq (.reg [⟨some 52, none, .mv (.t 9)⟩, ⟨some 53, none, .mv (.t 1)⟩, ⟨some 54, none, .bin .lss (.t 52) (.t 53)⟩]) (.cond (.t 54) (.reg [⟨some 55, none, .mv (.t 0)⟩, ⟨some 56, none, .mv (.t 7)⟩, ⟨some 57, none, .mv (.t 9)⟩, ⟨some 58, none, .mv (.t 1)⟩, ⟨some 59, none, .mv (.t 2)⟩, ⟨some 60, none, .call fn_slices_symMergeCmpFunc_int [.t 55, .t 56, .t 57, .t 58, .t 59]⟩]) .skip))) (.reg [⟨some 61, none, .mv (.t 6)⟩, ⟨some 62, none, .bin .mul (.t 61) (.c (.int .i64 2))⟩, ⟨some 6, none, .mv (.t 62)⟩])))))))))))
theorem code_slices_stableCmpFunc_int : HasCode Try.prog fn_slices_stableCmpFunc_int mc_slices_stableCmpFunc_int [] 63 := ⟨mixed, Try.f74, _, Try.func74, rfl, by kernel_rfl, by kernel_rfl, rfl, by kernel_rfl⟩

def mc_cmp_isNaN_int : MC :=
  .seq (.reg [⟨some 2, none, .mv (.c (.bool false))⟩]) (.seq (.reg [⟨some 3, none, .mv (.t 0)⟩, ⟨some 4, none, .mv (.t 0)⟩, ⟨some 5, none, .bin .neq (.t 3) (.t 4)⟩, ⟨some 2, none, .mv (.t 5)⟩]) .ret)
theorem code_cmp_isNaN_int : HasCode Try.prog fn_cmp_isNaN_int mc_cmp_isNaN_int [.t 2] 6 := ⟨mixed, Try.f75, _, Try.func75, rfl, by kernel_rfl, by kernel_rfl, rfl, by kernel_rfl⟩

def mc_slices_insertionSortCmpFunc_int : MC :=
  .seq (.reg [⟨some 10, none, .mv (.t 1)⟩, ⟨some 11, none, .bin .add (.t 10) (.c (.int .i64 1))⟩, ⟨some 8, none, .mv (.t 11)⟩]) (.block 0 (.loop (.seq (.seq (.reg [⟨some 12, none, .mv (.t 8)⟩, ⟨some 13, none, .mv (.t 2)⟩, ⟨some 14, none, .bin .lss (.t 12) (.t 13)⟩]) (.cond (.t 14) .skip (.exit 0))) (.seq (.block 1 (.seq (.reg [⟨some 17, none, .mv (.t 8)⟩, ⟨some 9, none, .mv (.t 17)⟩]) (.block 2 (.loop (.seq (.seq (.dra [[⟨some 18, none, .mv (.t 9)⟩, ⟨some 19, none, .mv (.t 1)⟩, ⟨some 20, none, .bin .gtr (.t 18) (.t 19)⟩, ⟨some 21, none, .mv (.t 20)⟩, ⟨some 22, some (21, true), .mv (.t 3)⟩, ⟨some 23, some (21, true), .mv (.t 0)⟩, ⟨some 24, some (21, true), .mv (.t 9)⟩, ⟨some 25, some (21, true), .ixa (.t 23) (.t 24) 1⟩, ⟨some 27, some (21, true), .mv (.t 0)⟩, ⟨some 28, some (21, true), .mv (.t 9)⟩, ⟨some 29, some (21, true), .bin .sub (.t 28) (.c (.int .i64 1))⟩, ⟨some 30, some (21, true), .ixa (.t 27) (.t 29) 1⟩, ⟨some 26, some (21, true), .ld (.t 25) 1 false⟩, ⟨some 31, some (21, true), .ld (.t 30) 1 false⟩, ⟨some 32, some (21, true), .callv (.t 22) [.t 26, .t 31]⟩, ⟨some 33, some (21, true), .bin .lss (.t 32) (.c (.int .i64 0))⟩, ⟨some 34, none, .pick (.t 21) (.t 33) (.c (.bool false))⟩], [⟨some 18, none, .mv (.t 9)⟩, ⟨some 19, none, .mv (.t 1)⟩, ⟨some 20, none, .bin .gtr (.t 18) (.t 19)⟩, ⟨some 21, none, .mv (.t 20)⟩, ⟨some 22, some (21, true), .mv (.t 3)⟩, ⟨some 23, some (21, true), .mv (.t 0)⟩, ⟨some 24, some (21, true), .mv (.t 9)⟩, ⟨some 25, some (21, true), .ixa (.t 23) (.t 24) 1⟩, ⟨some 27, some (21, true), .mv (.t 0)⟩, ⟨some 28, some (21, true), .mv (.t 9)⟩, ⟨some 29, some (21, true), .bin .sub (.t 28) (.c (.int .i64 1))⟩, ⟨some 30, some (21, true), .ixa (.t 27) (.t 29) 1⟩, ⟨some 31, some (21, true), .ld (.t 30) 1 false⟩, ⟨some 26, some (21, true), .ld (.t 25) 1 false⟩, ⟨some 32, some (21, true), .callv (.t 22) [.t 26, .t 31]⟩, ⟨some 33, some (21, true), .bin .lss (.t 32) (.c (.int .i64 0))⟩, ⟨some 34, none, .pick (.t 21) (.t 33) (.c (.bool false))⟩]]) (.cond (.t 34) .skip (.exit 2))) (.seq (.block 3 (.drw [⟨some 37, none, .mv (.t 0)⟩, ⟨some 38, none, .mv (.t 9)⟩, ⟨some 39, none, .mv (.t 0)⟩, ⟨some 40, none, .mv (.t 9)⟩, ⟨some 41, none, .bin .sub (.t 40) (.c (.int .i64 1))⟩, ⟨some 42, none, .mv (.t 0)⟩, ⟨some 43, none, .mv (.t 9)⟩, ⟨some 44, none, .bin .sub (.t 43) (.c (.int .i64 1))⟩, ⟨some 45, none, .ixa (.t 42) (.t 44) 1⟩, ⟨some 46, none, .ld (.t 45) 1 false⟩, ⟨some 47, none, .mv (.t 0)⟩, ⟨some 48, none, .mv (.t 9)⟩, ⟨some 49, none, .ixa (.t 47) (.t 48) 1⟩, ⟨some 50, none, .ld (.t 49) 1 false⟩, ⟨some 51, none, .ixa (.t 37) (.t 38) 1⟩, ⟨none, none, .st (.t 51) (.t 46) 1⟩, ⟨some 52, none, .ixa (.t 39) (.t 41) 1⟩, ⟨none, none, .st (.t 52) (.t 50) 1⟩] [])) (.reg [⟨some 35, none, .mv (.t 9)⟩, ⟨some 36, none, .bin .sub (.t 35) (.c (.int .i64 1))⟩, ⟨some 9, none, .mv (.t 36)⟩]))))))) (.reg [⟨some 15, none, .mv (.t 8)⟩, ⟨some 16, none, .bin .add (.t 15) (.c (.int .i64 1))⟩, ⟨some 8, none, .mv (.t 16)⟩])))))
theorem code_slices_insertionSortCmpFunc_int : HasCode Try.prog fn_slices_insertionSortCmpFunc_int mc_slices_insertionSortCmpFunc_int [] 53 := ⟨mixed, Try.f87, _, Try.func87, rfl, by kernel_rfl, by kernel_rfl, rfl, by kernel_rfl⟩

def mc_impl_allAtOnce_raised : MC :=
  .seq (.reg [⟨some 4, none, .box (.t 0)⟩, ⟨some 8, none, .mv (.c (.int .i64 0))⟩]) (.seq (.reg [⟨some 9, none, .mv (.t 1)⟩, ⟨some 10, none, .mv (.t 2)⟩, ⟨some 11, none, .bin .mul (.t 9) (.t 10)⟩, ⟨some 8, none, .mv (.t 11)⟩]) .ret)
theorem code_impl_allAtOnce_raised : HasCode Try.prog fn_impl_allAtOnce_raised mc_impl_allAtOnce_raised [.t 8] 12 := ⟨mixed, Try.f112, _, Try.func112, rfl, by kernel_rfl, by kernel_rfl, rfl, by kernel_rfl⟩

def mc_impl_stepsDown_raised : MC :=
  .seq (.reg [⟨some 4, none, .box (.t 0)⟩, ⟨some 8, none, .mv (.c (.int .i64 0))⟩]) (.seq (.reg [⟨some 9, none, .mv (.t 1)⟩, ⟨some 10, none, .mv (.t 2)⟩, ⟨some 11, none, .mv (.t 3)⟩, ⟨some 12, none, .bin .sub (.t 10) (.t 11)⟩, ⟨some 13, none, .bin .mul (.t 9) (.t 12)⟩, ⟨some 8, none, .mv (.t 13)⟩]) .ret)
theorem code_impl_stepsDown_raised : HasCode Try.prog fn_impl_stepsDown_raised mc_impl_stepsDown_raised [.t 8] 14 := ⟨mixed, Try.f113, _, Try.func113, rfl, by kernel_rfl, by kernel_rfl, rfl, by kernel_rfl⟩

def mc_impl_stepsUp_raised : MC :=
  .seq (.reg [⟨some 4, none, .box (.t 0)⟩, ⟨some 8, none, .mv (.c (.int .i64 0))⟩]) (.seq (.reg [⟨some 9, none, .mv (.t 1)⟩, ⟨some 10, none, .mv (.t 2)⟩, ⟨some 11, none, .mv (.t 3)⟩, ⟨some 12, none, .bin .sub (.t 10) (.t 11)⟩, ⟨some 13, none, .bin .mul (.t 9) (.t 12)⟩, ⟨some 8, none, .mv (.t 13)⟩]) .ret)
theorem code_impl_stepsUp_raised : HasCode Try.prog fn_impl_stepsUp_raised mc_impl_stepsUp_raised [.t 8] 14 := ⟨mixed, Try.f114, _, Try.func114, rfl, by kernel_rfl, by kernel_rfl, rfl, by kernel_rfl⟩

def mc_impl_shares_raised : MC :=
  .seq (.reg [⟨some 4, none, .box (.t 0)⟩, ⟨some 8, none, .mv (.c (.int .i64 0))⟩]) (.seq (.reg [⟨some 10, none, .mv (.t 3)⟩, ⟨some 11, none, .bin .add (.t 10) (.c (.int .i64 1))⟩, ⟨some 9, none, .mv (.t 11)⟩]) (.seq (.reg [⟨some 12, none, .mv (.t 1)⟩, ⟨some 13, none, .mv (.t 2)⟩, ⟨some 14, none, .bin .mul (.t 12) (.t 13)⟩, ⟨some 15, none, .mv (.t 9)⟩, ⟨some 16, none, .bin .add (.t 14) (.t 15)⟩, ⟨some 17, none, .bin .sub (.t 16) (.c (.int .i64 1))⟩, ⟨some 18, none, .mv (.t 9)⟩, ⟨some 19, none, .bin .quo (.t 17) (.t 18)⟩, ⟨some 8, none, .mv (.t 19)⟩]) .ret))
theorem code_impl_shares_raised : HasCode Try.prog fn_impl_shares_raised mc_impl_shares_raised [.t 8] 20 := ⟨mixed, Try.f115, _, Try.func115, rfl, by kernel_rfl, by kernel_rfl, rfl, by kernel_rfl⟩
theorem meth_impl_allAtOnce_raised_45 : methOf Try.prog "loop.example/countedchances/impl.raised" 45 = some fn_impl_allAtOnce_raised := by kernel_rfl
theorem meth_impl_stepsDown_raised_46 : methOf Try.prog "loop.example/countedchances/impl.raised" 46 = some fn_impl_stepsDown_raised := by kernel_rfl
theorem meth_impl_stepsUp_raised_47 : methOf Try.prog "loop.example/countedchances/impl.raised" 47 = some fn_impl_stepsUp_raised := by kernel_rfl
theorem meth_impl_shares_raised_48 : methOf Try.prog "loop.example/countedchances/impl.raised" 48 = some fn_impl_shares_raised := by kernel_rfl

end Go.Rx.Try
