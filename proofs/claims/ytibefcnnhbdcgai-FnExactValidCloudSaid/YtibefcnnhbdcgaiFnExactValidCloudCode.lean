/-
  The code of each function of the program, taken up. Made by a program.
-/
import Derived.Test.YtibefcnnhbdcgaiProg
import Derived.Test.YtibefcnnhbdcgaiRxI
import Derived.KernelRfl
namespace Go.Rx.Try
open Go.Proofs
set_option maxRecDepth 100000

abbrev fn_laws_FnExactValidCloud : FuncId := 3
abbrev fn_laws_FnExactStripByPairs : FuncId := 4
abbrev fn_spec_ValidCloud : FuncId := 5
abbrev fn_laws_toIntS : FuncId := 6
abbrev fn_impl_ValidCloud : FuncId := 7
abbrev fn_laws_eqIntS : FuncId := 8
abbrev fn_spec_StripByPairs : FuncId := 9
abbrev fn_impl_StripByPairs : FuncId := 10
abbrev fn_laws_eqFrac : FuncId := 11
abbrev fn_spec_validCloud : FuncId := 12
abbrev fn_impl_validPoints : FuncId := 13
abbrev fn_slices_Min_ints : FuncId := 14
abbrev fn_slices_Max_ints : FuncId := 15
abbrev fn_spec_slopes : FuncId := 16
abbrev fn_spec_breadth : FuncId := 17
abbrev fn_spec_less : FuncId := 18
abbrev fn_impl_SlopesOf : FuncId := 19
abbrev fn_impl_stripOf : FuncId := 20
abbrev fn_impl_pointsOf : FuncId := 21
abbrev fn_impl_least_impl_Frac : FuncId := 22
abbrev fn_impl_Frac_over : FuncId := 23
abbrev fn_spec_validPoints : FuncId := 24
abbrev fn_spec_wide : FuncId := 25
abbrev fn_impl_validPlace : FuncId := 26
abbrev fn_spec_frac : FuncId := 27
abbrev fn_spec_over : FuncId := 28
abbrev fn_spec_times : FuncId := 29
abbrev fn_spec_minus : FuncId := 30
abbrev fn_impl_sideBySide : FuncId := 31
abbrev fn_impl_through : FuncId := 32
abbrev fn_slices_SortFunc_impl_Frac_impl_Frac : FuncId := 33
abbrev fn_impl_Frac_compare : FuncId := 34
abbrev fn_impl_whole : FuncId := 35
abbrev fn_impl_line_above : FuncId := 36
abbrev fn_impl_greatest_impl_Frac : FuncId := 37
abbrev fn_impl_Frac_minus : FuncId := 38
abbrev fn_impl_lowest : FuncId := 39
abbrev fn_spec_inRange : FuncId := 40
abbrev fn_spec_gcd : FuncId := 41
abbrev fn_spec_plus : FuncId := 42
abbrev fn_impl_sideBySide_1 : FuncId := 43
abbrev fn_impl_Frac_times : FuncId := 44
abbrev fn_slices_pdqsortCmpFunc_impl_Frac : FuncId := 45
abbrev fn_math_bits_Len : FuncId := 46
abbrev fn_cmp_Compare_int : FuncId := 47
abbrev fn_impl_Frac_plus : FuncId := 48
abbrev fn_impl_commonFactor : FuncId := 49
abbrev fn_slices_insertionSortCmpFunc_impl_Frac : FuncId := 50
abbrev fn_slices_heapSortCmpFunc_impl_Frac : FuncId := 51
abbrev fn_slices_breakPatternsCmpFunc_impl_Frac : FuncId := 52
abbrev fn_slices_choosePivotCmpFunc_impl_Frac : FuncId := 53
abbrev fn_slices_reverseRangeCmpFunc_impl_Frac : FuncId := 54
abbrev fn_slices_partialInsertionSortCmpFunc_impl_Frac : FuncId := 55
abbrev fn_slices_partitionEqualCmpFunc_impl_Frac : FuncId := 56
abbrev fn_slices_partitionCmpFunc_impl_Frac : FuncId := 57
abbrev fn_math_bits_Len32 : FuncId := 58
abbrev fn_math_bits_Len64 : FuncId := 59
abbrev fn_cmp_isNaN_int : FuncId := 60
abbrev fn_impl_apart : FuncId := 61
abbrev fn_slices_siftDownCmpFunc_impl_Frac : FuncId := 62
abbrev fn_slices_nextPowerOfTwo : FuncId := 63
abbrev fn_slices_xorshift_Next : FuncId := 64
abbrev fn_slices_medianAdjacentCmpFunc_impl_Frac : FuncId := 65
abbrev fn_slices_medianCmpFunc_impl_Frac : FuncId := 66
abbrev fn_slices_order2CmpFunc_impl_Frac : FuncId := 67
abbrev fn_runtime_boundsError_Error : FuncId := 68
abbrev fn_runtime_boundsError_RuntimeError : FuncId := 69
abbrev fn_runtime_errorString_Error : FuncId := 70
abbrev fn_runtime_errorString_RuntimeError : FuncId := 71
abbrev fn_runtime_plainError_Error : FuncId := 72
abbrev fn_runtime_plainError_RuntimeError : FuncId := 73
abbrev fn_runtime_errorAddressString_Error : FuncId := 74
abbrev fn_runtime_errorAddressString_RuntimeError : FuncId := 75
abbrev fn_runtime_TypeAssertionError_Error : FuncId := 76
abbrev fn_runtime_TypeAssertionError_RuntimeError : FuncId := 77
abbrev fn_runtime_PanicNilError_Error : FuncId := 78
abbrev fn_runtime_PanicNilError_RuntimeError : FuncId := 79
abbrev fn_internal_abi_Type_Align : FuncId := 80
abbrev fn_internal_runtime_maps_unhashableTypeError_Error : FuncId := 81
abbrev fn_internal_runtime_maps_unhashableTypeError_RuntimeError : FuncId := 82
abbrev fn_impl_Frac_size : FuncId := 83
abbrev fn_internal_abi_Kind_String : FuncId := 84
abbrev ty_abi_BoundsErrorCode : TypeId := 6
abbrev ty_maps_unhashableTypeError : TypeId := 19
abbrev ty_impl_Frac : TypeId := 26
abbrev ty_impl_point : TypeId := 49
abbrev ty_impl_line : TypeId := 51
abbrev ty_abi_TFlag : TypeId := 92
abbrev ty_abi_Kind : TypeId := 93
abbrev ty_abi_NameOff : TypeId := 96
abbrev ty_abi_TypeOff : TypeId := 97
abbrev ty_abi_Type : TypeId := 99
theorem mixed : Try.prog.follows .mixedOrders = true := by kernel_rfl

def mc_laws_FnExactValidCloud : MC :=
  .seq (.reg [⟨some 4, none, .mv (.c (.bool false))⟩]) (.seq (.seq (.reg [⟨some 9, none, .mv (.t 0)⟩, ⟨some 10, none, .len (.t 9)⟩, ⟨some 11, none, .bin .gtr (.t 10) (.c (.int .i64 1048576))⟩]) (.cond (.t 11) (.seq (.reg [⟨some 4, none, .mv (.c (.bool true))⟩]) .ret) .skip)) (.seq (.seq (.reg [⟨some 12, none, .mv (.t 1)⟩, ⟨some 13, none, .len (.t 12)⟩, ⟨some 14, none, .bin .gtr (.t 13) (.c (.int .i64 1048576))⟩]) (.cond (.t 14) (.seq (.reg [⟨some 4, none, .mv (.c (.bool true))⟩]) .ret) .skip)) (.seq (.reg [⟨some 15, none, .mv (.t 0)⟩, ⟨some 16, none, .call fn_laws_toIntS [.t 15]⟩, ⟨some 17, none, .mv (.t 1)⟩, ⟨some 18, none, .call fn_laws_toIntS [.t 17]⟩, ⟨some 19, none, .call fn_spec_ValidCloud [.t 16, .t 18]⟩, ⟨some 5, none, .mv (.t 19)⟩]) (.seq (.reg [⟨some 20, none, .mv (.t 0)⟩, ⟨some 21, none, .call fn_laws_toIntS [.t 20]⟩, ⟨some 6, none, .mv (.t 21)⟩]) (.seq (.reg [⟨some 22, none, .mv (.t 1)⟩, ⟨some 23, none, .call fn_laws_toIntS [.t 22]⟩, ⟨some 7, none, .mv (.t 23)⟩]) (.seq (.reg [⟨some 24, none, .mv (.t 6)⟩, ⟨some 25, none, .mv (.t 7)⟩, ⟨some 26, none, .call fn_impl_ValidCloud [.t 24, .t 25]⟩, ⟨some 8, none, .mv (.t 26)⟩]) (.seq (.seq (.reg [⟨some 27, none, .mv (.t 8)⟩, ⟨some 28, none, .mv (.t 5)⟩, ⟨some 29, none, .beq true (.t 27) (.t 28)⟩]) (.cond (.t 29) (.seq (.reg [⟨some 4, none, .mv (.c (.bool false))⟩]) .ret) .skip)) (.seq (.seq (.reg [⟨some 30, none, .mv (.t 6)⟩, ⟨some 31, none, .mv (.t 0)⟩, ⟨some 32, none, .call fn_laws_toIntS [.t 31]⟩, ⟨some 33, none, .call fn_laws_eqIntS [.t 30, .t 32]⟩, ⟨some 34, none, .un .not (.t 33)⟩]) (.cond (.t 34) (.seq (.reg [⟨some 4, none, .mv (.c (.bool false))⟩]) .ret) .skip)) (.seq (.seq (.reg [⟨some 35, none, .mv (.t 7)⟩, ⟨some 36, none, .mv (.t 1)⟩, ⟨some 37, none, .call fn_laws_toIntS [.t 36]⟩, ⟨some 38, none, .call fn_laws_eqIntS [.t 35, .t 37]⟩, ⟨some 39, none, .un .not (.t 38)⟩]) (.cond (.t 39) (.seq (.reg [⟨some 4, none, .mv (.c (.bool false))⟩]) .ret) .skip)) (.seq (.reg [⟨some 4, none, .mv (.c (.bool true))⟩]) .ret))))))))))
theorem code_laws_FnExactValidCloud : HasCode Try.prog fn_laws_FnExactValidCloud mc_laws_FnExactValidCloud [.t 4] 40 := ⟨mixed, Try.f3, _, Try.func3, rfl, by kernel_rfl, by kernel_rfl, rfl, by kernel_rfl⟩

def mc_spec_ValidCloud : MC :=
  .seq (.reg [⟨some 4, none, .mv (.c (.bool false))⟩]) (.seq (.reg [⟨some 5, none, .mv (.t 0)⟩, ⟨some 6, none, .mv (.t 1)⟩, ⟨some 7, none, .call fn_spec_validCloud [.t 5, .t 6]⟩, ⟨some 4, none, .mv (.t 7)⟩]) .ret)
theorem code_spec_ValidCloud : HasCode Try.prog fn_spec_ValidCloud mc_spec_ValidCloud [.t 4] 8 := ⟨mixed, Try.f5, _, Try.func5, rfl, by kernel_rfl, by kernel_rfl, rfl, by kernel_rfl⟩

def mc_laws_toIntS : MC :=
  .seq (.reg [⟨some 2, none, .mv (.c .nilSlice)⟩]) (.seq (.reg [⟨some 5, none, .mv (.t 0)⟩, ⟨some 6, none, .len (.t 5)⟩, ⟨some 7, none, .mks (.t 6) (.t 6) [.int .i64 0] 1 8⟩, ⟨some 3, none, .mv (.t 7)⟩]) (.seq (.seq (.reg [⟨some 4, none, .mv (.c (.int .i64 0))⟩]) (.block 0 (.loop (.seq (.seq (.reg [⟨some 8, none, .mv (.t 4)⟩, ⟨some 9, none, .mv (.t 0)⟩, ⟨some 10, none, .len (.t 9)⟩, ⟨some 11, none, .bin .lss (.t 8) (.t 10)⟩]) (.cond (.t 11) .skip (.exit 0))) (.seq (.block 1 (.reg [⟨some 14, none, .mv (.t 3)⟩, ⟨some 15, none, .mv (.t 4)⟩, ⟨some 16, none, .mv (.t 0)⟩, ⟨some 17, none, .mv (.t 4)⟩, ⟨some 18, none, .ixa (.t 16) (.t 17) 1⟩, ⟨some 19, none, .ld (.t 18) 1 false⟩, ⟨some 20, none, .ixa (.t 14) (.t 15) 1⟩, ⟨none, none, .st (.t 20) (.t 19) 1⟩])) (.reg [⟨some 12, none, .mv (.t 4)⟩, ⟨some 13, none, .bin .add (.t 12) (.c (.int .i64 1))⟩, ⟨some 4, none, .mv (.t 13)⟩])))))) (.seq (.reg [⟨some 21, none, .mv (.t 3)⟩, ⟨some 2, none, .mv (.t 21)⟩]) .ret)))
theorem code_laws_toIntS : HasCode Try.prog fn_laws_toIntS mc_laws_toIntS [.t 2] 22 := ⟨mixed, Try.f6, _, Try.func6, rfl, by kernel_rfl, by kernel_rfl, rfl, by kernel_rfl⟩

def mc_impl_ValidCloud : MC :=
  .seq (.reg [⟨some 4, none, .mv (.c (.bool false))⟩]) (.seq (.reg [⟨some 5, none, .mv (.t 0)⟩, ⟨some 6, none, .mv (.t 1)⟩, ⟨some 7, none, .call fn_impl_validPoints [.t 5, .t 6, .c (.int .i64 7)]⟩, ⟨some 8, none, .mv (.t 7)⟩, ⟨some 9, some (8, true), .mv (.t 0)⟩, ⟨some 10, some (8, true), .call fn_slices_Min_ints [.t 9]⟩, ⟨some 11, some (8, true), .mv (.t 0)⟩, ⟨some 12, some (8, true), .call fn_slices_Max_ints [.t 11]⟩, ⟨some 13, some (8, true), .bin .lss (.t 10) (.t 12)⟩, ⟨some 14, none, .pick (.t 8) (.t 13) (.c (.bool false))⟩, ⟨some 4, none, .mv (.t 14)⟩]) .ret)
theorem code_impl_ValidCloud : HasCode Try.prog fn_impl_ValidCloud mc_impl_ValidCloud [.t 4] 15 := ⟨mixed, Try.f7, _, Try.func7, rfl, by kernel_rfl, by kernel_rfl, rfl, by kernel_rfl⟩

def mc_laws_eqIntS : MC :=
  .seq (.reg [⟨some 4, none, .mv (.c (.bool false))⟩]) (.seq (.seq (.reg [⟨some 6, none, .mv (.t 0)⟩, ⟨some 7, none, .len (.t 6)⟩, ⟨some 8, none, .mv (.t 1)⟩, ⟨some 9, none, .len (.t 8)⟩, ⟨some 10, none, .bin .neq (.t 7) (.t 9)⟩]) (.cond (.t 10) (.seq (.reg [⟨some 4, none, .mv (.c (.bool false))⟩]) .ret) .skip)) (.seq (.seq (.reg [⟨some 5, none, .mv (.c (.int .i64 0))⟩]) (.block 0 (.loop (.seq (.seq (.reg [⟨some 11, none, .mv (.t 5)⟩, ⟨some 12, none, .mv (.t 0)⟩, ⟨some 13, none, .len (.t 12)⟩, ⟨some 14, none, .bin .lss (.t 11) (.t 13)⟩]) (.cond (.t 14) .skip (.exit 0))) (.seq (.block 1 (.seq (.drq [⟨some 17, none, .mv (.t 0)⟩, ⟨some 18, none, .mv (.t 5)⟩, ⟨some 19, none, .ixa (.t 17) (.t 18) 1⟩, ⟨some 20, none, .ld (.t 19) 1 false⟩, ⟨some 21, none, .mv (.t 1)⟩, ⟨some 22, none, .mv (.t 5)⟩, ⟨some 23, none, .ixa (.t 21) (.t 22) 1⟩, ⟨some 24, none, .ld (.t 23) 1 false⟩, ⟨some 25, none, .bin .neq (.t 20) (.t 24)⟩]) (.cond (.t 25) (.seq (.reg [⟨some 4, none, .mv (.c (.bool false))⟩]) .ret) .skip))) (.reg [⟨some 15, none, .mv (.t 5)⟩, ⟨some 16, none, .bin .add (.t 15) (.c (.int .i64 1))⟩, ⟨some 5, none, .mv (.t 16)⟩])))))) (.seq (.reg [⟨some 4, none, .mv (.c (.bool true))⟩]) .ret)))
theorem code_laws_eqIntS : HasCode Try.prog fn_laws_eqIntS mc_laws_eqIntS [.t 4] 26 := ⟨mixed, Try.f8, _, Try.func8, rfl, by kernel_rfl, by kernel_rfl, rfl, by kernel_rfl⟩

def mc_spec_validCloud : MC :=
  .seq (.reg [⟨some 4, none, .mv (.c (.bool false))⟩]) (.seq (.reg [⟨some 5, none, .mv (.t 0)⟩, ⟨some 6, none, .mv (.t 1)⟩, ⟨some 7, none, .call fn_spec_validPoints [.t 5, .t 6]⟩, ⟨some 8, none, .mv (.t 7)⟩, ⟨some 9, some (8, true), .mv (.t 0)⟩, ⟨some 10, some (8, true), .call fn_spec_wide [.t 9]⟩, ⟨some 11, none, .pick (.t 8) (.t 10) (.c (.bool false))⟩, ⟨some 4, none, .mv (.t 11)⟩]) .ret)
theorem code_spec_validCloud : HasCode Try.prog fn_spec_validCloud mc_spec_validCloud [.t 4] 12 := ⟨mixed, Try.f12, _, Try.func12, rfl, by kernel_rfl, by kernel_rfl, rfl, by kernel_rfl⟩

def mc_impl_validPoints : MC :=
  .seq (.reg [⟨some 6, none, .mv (.c (.bool false))⟩]) (.seq (.seq (.reg [⟨some 8, none, .mv (.t 0)⟩, ⟨some 9, none, .len (.t 8)⟩, ⟨some 10, none, .mv (.t 1)⟩, ⟨some 11, none, .len (.t 10)⟩, ⟨some 12, none, .bin .neq (.t 9) (.t 11)⟩, ⟨some 13, none, .mv (.t 12)⟩, ⟨some 14, some (13, false), .mv (.t 0)⟩, ⟨some 15, some (13, false), .len (.t 14)⟩, ⟨some 16, some (13, false), .bin .lss (.t 15) (.c (.int .i64 1))⟩, ⟨some 17, none, .pick (.t 13) (.c (.bool true)) (.t 16)⟩, ⟨some 18, none, .mv (.t 17)⟩, ⟨some 19, some (18, false), .mv (.t 0)⟩, ⟨some 20, some (18, false), .len (.t 19)⟩, ⟨some 21, some (18, false), .mv (.t 2)⟩, ⟨some 22, some (18, false), .bin .gtr (.t 20) (.t 21)⟩, ⟨some 23, none, .pick (.t 18) (.c (.bool true)) (.t 22)⟩]) (.cond (.t 23) (.seq (.reg [⟨some 6, none, .mv (.c (.bool false))⟩]) .ret) .skip)) (.seq (.seq (.reg [⟨some 24, none, .mv (.t 0)⟩, ⟨some 25, none, .len (.t 24)⟩, ⟨some 26, none, .mv (.c (.int .i64 0))⟩]) (.block 0 (.loop (.seq (.reg [⟨some 27, none, .bin .lss (.t 26) (.t 25)⟩]) (.seq (.cond (.t 27) .skip (.exit 0)) (.seq (.block 1 (.seq (.reg [⟨some 28, none, .mv (.t 26)⟩, ⟨some 7, none, .mv (.t 28)⟩]) (.seq (.reg [⟨some 29, none, .mv (.t 0)⟩, ⟨some 30, none, .mv (.t 7)⟩, ⟨some 31, none, .ixa (.t 29) (.t 30) 1⟩, ⟨some 32, none, .ld (.t 31) 1 false⟩, ⟨some 33, none, .call fn_impl_validPlace [.t 32]⟩, ⟨some 34, none, .un .not (.t 33)⟩, ⟨some 35, none, .mv (.t 34)⟩, ⟨some 36, some (35, false), .mv (.t 1)⟩, ⟨some 37, some (35, false), .mv (.t 7)⟩, ⟨some 38, some (35, false), .ixa (.t 36) (.t 37) 1⟩, ⟨some 39, some (35, false), .ld (.t 38) 1 false⟩, ⟨some 40, some (35, false), .call fn_impl_validPlace [.t 39]⟩, ⟨some 41, some (35, false), .un .not (.t 40)⟩, ⟨some 42, none, .pick (.t 35) (.c (.bool true)) (.t 41)⟩]) (.cond (.t 42) (.seq (.reg [⟨some 6, none, .mv (.c (.bool false))⟩]) .ret) .skip)))) (.reg [⟨some 43, none, .bin .add (.t 26) (.c (.int .i64 1))⟩, ⟨some 26, none, .mv (.t 43)⟩]))))))) (.seq (.reg [⟨some 6, none, .mv (.c (.bool true))⟩]) .ret)))
theorem code_impl_validPoints : HasCode Try.prog fn_impl_validPoints mc_impl_validPoints [.t 6] 44 := ⟨mixed, Try.f13, _, Try.func13, rfl, by kernel_rfl, by kernel_rfl, rfl, by kernel_rfl⟩

def mc_slices_Min_ints : MC :=
  .seq (.reg [⟨some 2, none, .mv (.c (.int .i64 0))⟩]) (.seq (.seq (.reg [⟨some 5, none, .mv (.t 0)⟩, ⟨some 6, none, .len (.t 5)⟩, ⟨some 7, none, .bin .lss (.t 6) (.c (.int .i64 1))⟩]) (.cond (.t 7) (.reg [⟨some 8, none, .mki 9 (.c (.str [115, 108, 105, 99, 101, 115, 46, 77, 105, 110, 58, 32, 101, 109, 112, 116, 121, 32, 108, 105, 115, 116]))⟩, ⟨none, none, .die⟩]) .skip)) (.seq (.reg [⟨some 9, none, .mv (.t 0)⟩, ⟨some 10, none, .ixa (.t 9) (.c (.int .i64 0)) 1⟩, ⟨some 11, none, .ld (.t 10) 1 false⟩, ⟨some 3, none, .mv (.t 11)⟩]) (.seq (.seq (.reg [⟨some 4, none, .mv (.c (.int .i64 1))⟩]) (.block 0 (.loop (.seq (.seq (.reg [⟨some 12, none, .mv (.t 4)⟩, ⟨some 13, none, .mv (.t 0)⟩, ⟨some 14, none, .len (.t 13)⟩, ⟨some 15, none, .bin .lss (.t 12) (.t 14)⟩]) (.cond (.t 15) .skip (.exit 0))) (.seq (.block 1 (.reg [⟨some 18, none, .mv (.t 3)⟩, ⟨some 19, none, .mv (.t 0)⟩, ⟨some 20, none, .mv (.t 4)⟩, ⟨some 21, none, .ixa (.t 19) (.t 20) 1⟩, ⟨some 22, none, .ld (.t 21) 1 false⟩, ⟨some 23, none, .mnmx false (.t 18) [.t 22]⟩, ⟨some 3, none, .mv (.t 23)⟩])) (.reg [⟨some 16, none, .mv (.t 4)⟩, ⟨some 17, none, .bin .add (.t 16) (.c (.int .i64 1))⟩, ⟨some 4, none, .mv (.t 17)⟩])))))) (.seq (.reg [⟨some 24, none, .mv (.t 3)⟩, ⟨some 2, none, .mv (.t 24)⟩]) .ret))))
theorem code_slices_Min_ints : HasCode Try.prog fn_slices_Min_ints mc_slices_Min_ints [.t 2] 25 := ⟨mixed, Try.f14, _, Try.func14, rfl, by kernel_rfl, by kernel_rfl, rfl, by kernel_rfl⟩

def mc_slices_Max_ints : MC :=
  .seq (.reg [⟨some 2, none, .mv (.c (.int .i64 0))⟩]) (.seq (.seq (.reg [⟨some 5, none, .mv (.t 0)⟩, ⟨some 6, none, .len (.t 5)⟩, ⟨some 7, none, .bin .lss (.t 6) (.c (.int .i64 1))⟩]) (.cond (.t 7) (.reg [⟨some 8, none, .mki 9 (.c (.str [115, 108, 105, 99, 101, 115, 46, 77, 97, 120, 58, 32, 101, 109, 112, 116, 121, 32, 108, 105, 115, 116]))⟩, ⟨none, none, .die⟩]) .skip)) (.seq (.reg [⟨some 9, none, .mv (.t 0)⟩, ⟨some 10, none, .ixa (.t 9) (.c (.int .i64 0)) 1⟩, ⟨some 11, none, .ld (.t 10) 1 false⟩, ⟨some 3, none, .mv (.t 11)⟩]) (.seq (.seq (.reg [⟨some 4, none, .mv (.c (.int .i64 1))⟩]) (.block 0 (.loop (.seq (.seq (.reg [⟨some 12, none, .mv (.t 4)⟩, ⟨some 13, none, .mv (.t 0)⟩, ⟨some 14, none, .len (.t 13)⟩, ⟨some 15, none, .bin .lss (.t 12) (.t 14)⟩]) (.cond (.t 15) .skip (.exit 0))) (.seq (.block 1 (.reg [⟨some 18, none, .mv (.t 3)⟩, ⟨some 19, none, .mv (.t 0)⟩, ⟨some 20, none, .mv (.t 4)⟩, ⟨some 21, none, .ixa (.t 19) (.t 20) 1⟩, ⟨some 22, none, .ld (.t 21) 1 false⟩, ⟨some 23, none, .mnmx true (.t 18) [.t 22]⟩, ⟨some 3, none, .mv (.t 23)⟩])) (.reg [⟨some 16, none, .mv (.t 4)⟩, ⟨some 17, none, .bin .add (.t 16) (.c (.int .i64 1))⟩, ⟨some 4, none, .mv (.t 17)⟩])))))) (.seq (.reg [⟨some 24, none, .mv (.t 3)⟩, ⟨some 2, none, .mv (.t 24)⟩]) .ret))))
theorem code_slices_Max_ints : HasCode Try.prog fn_slices_Max_ints mc_slices_Max_ints [.t 2] 25 := ⟨mixed, Try.f15, _, Try.func15, rfl, by kernel_rfl, by kernel_rfl, rfl, by kernel_rfl⟩

def mc_spec_validPoints : MC :=
  .seq (.reg [⟨some 4, none, .mv (.c (.bool false))⟩]) (.seq (.seq (.reg [⟨some 5, none, .mv (.c (.int .i64 0))⟩]) (.block 0 (.loop (.seq (.seq (.reg [⟨some 6, none, .mv (.t 5)⟩, ⟨some 7, none, .mv (.t 0)⟩, ⟨some 8, none, .len (.t 7)⟩, ⟨some 9, none, .bin .lss (.t 6) (.t 8)⟩]) (.cond (.t 9) .skip (.exit 0))) (.seq (.block 1 (.seq (.reg [⟨some 12, none, .mv (.t 5)⟩, ⟨some 13, none, .mv (.t 1)⟩, ⟨some 14, none, .len (.t 13)⟩, ⟨some 15, none, .bin .geq (.t 12) (.t 14)⟩, ⟨some 16, none, .mv (.t 15)⟩, ⟨some 17, some (16, false), .mv (.t 0)⟩, ⟨some 18, some (16, false), .mv (.t 5)⟩, ⟨some 19, some (16, false), .ixa (.t 17) (.t 18) 1⟩, ⟨some 20, some (16, false), .ld (.t 19) 1 false⟩, ⟨some 21, some (16, false), .call fn_spec_inRange [.t 20, .c (.int .i64 (-12)), .c (.int .i64 12)]⟩, ⟨some 22, some (16, false), .un .not (.t 21)⟩, ⟨some 23, none, .pick (.t 16) (.c (.bool true)) (.t 22)⟩, ⟨some 24, none, .mv (.t 23)⟩, ⟨some 25, some (24, false), .mv (.t 1)⟩, ⟨some 26, some (24, false), .mv (.t 5)⟩, ⟨some 27, some (24, false), .ixa (.t 25) (.t 26) 1⟩, ⟨some 28, some (24, false), .ld (.t 27) 1 false⟩, ⟨some 29, some (24, false), .call fn_spec_inRange [.t 28, .c (.int .i64 (-12)), .c (.int .i64 12)]⟩, ⟨some 30, some (24, false), .un .not (.t 29)⟩, ⟨some 31, none, .pick (.t 24) (.c (.bool true)) (.t 30)⟩]) (.cond (.t 31) (.seq (.reg [⟨some 4, none, .mv (.c (.bool false))⟩]) .ret) .skip))) (.reg [⟨some 10, none, .mv (.t 5)⟩, ⟨some 11, none, .bin .add (.t 10) (.c (.int .i64 1))⟩, ⟨some 5, none, .mv (.t 11)⟩])))))) (.seq (.reg [⟨some 32, none, .mv (.t 0)⟩, ⟨some 33, none, .len (.t 32)⟩, ⟨some 34, none, .mv (.t 1)⟩, ⟨some 35, none, .len (.t 34)⟩, ⟨some 36, none, .bin .eql (.t 33) (.t 35)⟩, ⟨some 37, none, .mv (.t 36)⟩, ⟨some 38, some (37, true), .mv (.t 0)⟩, ⟨some 39, some (37, true), .len (.t 38)⟩, ⟨some 40, some (37, true), .bin .leq (.t 39) (.c (.int .i64 7))⟩, ⟨some 41, none, .pick (.t 37) (.t 40) (.c (.bool false))⟩, ⟨some 4, none, .mv (.t 41)⟩]) .ret))
theorem code_spec_validPoints : HasCode Try.prog fn_spec_validPoints mc_spec_validPoints [.t 4] 42 := ⟨mixed, Try.f24, _, Try.func24, rfl, by kernel_rfl, by kernel_rfl, rfl, by kernel_rfl⟩

def mc_spec_wide : MC :=
  .seq (.reg [⟨some 2, none, .mv (.c (.bool false))⟩]) (.seq (.seq (.reg [⟨some 3, none, .mv (.c (.int .i64 1))⟩]) (.block 0 (.loop (.seq (.seq (.reg [⟨some 4, none, .mv (.t 3)⟩, ⟨some 5, none, .mv (.t 0)⟩, ⟨some 6, none, .len (.t 5)⟩, ⟨some 7, none, .bin .lss (.t 4) (.t 6)⟩]) (.cond (.t 7) .skip (.exit 0))) (.seq (.block 1 (.seq (.drq [⟨some 10, none, .mv (.t 0)⟩, ⟨some 11, none, .mv (.t 3)⟩, ⟨some 12, none, .ixa (.t 10) (.t 11) 1⟩, ⟨some 13, none, .ld (.t 12) 1 false⟩, ⟨some 14, none, .mv (.t 0)⟩, ⟨some 15, none, .ixa (.t 14) (.c (.int .i64 0)) 1⟩, ⟨some 16, none, .ld (.t 15) 1 false⟩, ⟨some 17, none, .bin .neq (.t 13) (.t 16)⟩]) (.cond (.t 17) (.seq (.reg [⟨some 2, none, .mv (.c (.bool true))⟩]) .ret) .skip))) (.reg [⟨some 8, none, .mv (.t 3)⟩, ⟨some 9, none, .bin .add (.t 8) (.c (.int .i64 1))⟩, ⟨some 3, none, .mv (.t 9)⟩])))))) (.seq (.reg [⟨some 2, none, .mv (.c (.bool false))⟩]) .ret))
theorem code_spec_wide : HasCode Try.prog fn_spec_wide mc_spec_wide [.t 2] 18 := ⟨mixed, Try.f25, _, Try.func25, rfl, by kernel_rfl, by kernel_rfl, rfl, by kernel_rfl⟩

def mc_impl_validPlace : MC :=
  .seq (.reg [⟨some 2, none, .mv (.c (.bool false))⟩]) (.seq (.reg [⟨some 3, none, .mv (.t 0)⟩, ⟨some 4, none, .bin .geq (.t 3) (.c (.int .i64 (-12)))⟩, ⟨some 5, none, .mv (.t 4)⟩, ⟨some 6, some (5, true), .mv (.t 0)⟩, ⟨some 7, some (5, true), .bin .leq (.t 6) (.c (.int .i64 12))⟩, ⟨some 8, none, .pick (.t 5) (.t 7) (.c (.bool false))⟩, ⟨some 2, none, .mv (.t 8)⟩]) .ret)
theorem code_impl_validPlace : HasCode Try.prog fn_impl_validPlace mc_impl_validPlace [.t 2] 9 := ⟨mixed, Try.f26, _, Try.func26, rfl, by kernel_rfl, by kernel_rfl, rfl, by kernel_rfl⟩

def mc_spec_inRange : MC :=
  .seq (.reg [⟨some 6, none, .mv (.c (.bool false))⟩]) (.seq (.reg [⟨some 7, none, .mv (.t 1)⟩, ⟨some 8, none, .mv (.t 0)⟩, ⟨some 9, none, .bin .leq (.t 7) (.t 8)⟩, ⟨some 10, none, .mv (.t 9)⟩, ⟨some 11, some (10, true), .mv (.t 0)⟩, ⟨some 12, some (10, true), .mv (.t 2)⟩, ⟨some 13, some (10, true), .bin .leq (.t 11) (.t 12)⟩, ⟨some 14, none, .pick (.t 10) (.t 13) (.c (.bool false))⟩, ⟨some 6, none, .mv (.t 14)⟩]) .ret)
theorem code_spec_inRange : HasCode Try.prog fn_spec_inRange mc_spec_inRange [.t 6] 15 := ⟨mixed, Try.f40, _, Try.func40, rfl, by kernel_rfl, by kernel_rfl, rfl, by kernel_rfl⟩

end Go.Rx.Try
