/-
  The code of each function of the program, taken up. Made by a program.
-/
import Derived.Test.YtibefcnnhbdcgafProg
import Derived.Test.YtibefcnnhbdcgafRxI
import Derived.KernelRfl
namespace Go.Rx.Try
open Go.Proofs
set_option maxRecDepth 100000

abbrev fn_laws_FnExactStripByThrees : FuncId := 3
abbrev fn_laws_FnStripByThrees : FuncId := 4
abbrev fn_spec_StripByThrees : FuncId := 5
abbrev fn_laws_toIntS : FuncId := 6
abbrev fn_impl_StripByThrees : FuncId := 7
abbrev fn_laws_eqFrac : FuncId := 8
abbrev fn_laws_eqIntS : FuncId := 9
abbrev fn_spec_DrawStripByThrees : FuncId := 10
abbrev fn_laws_turned : FuncId := 11
abbrev fn_laws_negated : FuncId := 12
abbrev fn_laws_lessOf : FuncId := 13
abbrev fn_spec_validCloud : FuncId := 14
abbrev fn_spec_frac : FuncId := 15
abbrev fn_spec_less : FuncId := 16
abbrev fn_spec_three : FuncId := 17
abbrev fn_impl_ValidCloud : FuncId := 18
abbrev fn_impl_pointsOf : FuncId := 19
abbrev fn_impl_sideBySide : FuncId := 20
abbrev fn_impl_without : FuncId := 21
abbrev fn_impl_through : FuncId := 22
abbrev fn_impl_line_above : FuncId := 23
abbrev fn_impl_Frac_size : FuncId := 24
abbrev fn_impl_greatest_impl_Frac : FuncId := 25
abbrev fn_impl_whole : FuncId := 26
abbrev fn_impl_Frac_over : FuncId := 27
abbrev fn_spec_someCloud : FuncId := 28
abbrev fn_spec_newReader : FuncId := 29
abbrev fn_spec_validPoints : FuncId := 30
abbrev fn_spec_wide : FuncId := 31
abbrev fn_spec_gcd : FuncId := 32
abbrev fn_spec_over : FuncId := 33
abbrev fn_spec_times : FuncId := 34
abbrev fn_spec_size : FuncId := 35
abbrev fn_impl_validPoints : FuncId := 36
abbrev fn_slices_Min_ints : FuncId := 37
abbrev fn_slices_Max_ints : FuncId := 38
abbrev fn_impl_sideBySide_1 : FuncId := 39
abbrev fn_impl_lowest : FuncId := 40
abbrev fn_impl_Frac_minus : FuncId := 41
abbrev fn_impl_Frac_times : FuncId := 42
abbrev fn_impl_apart : FuncId := 43
abbrev fn_spec_reader_pick : FuncId := 44
abbrev fn_spec_reader_one : FuncId := 45
abbrev fn_spec_inRange : FuncId := 46
abbrev fn_spec_minus : FuncId := 47
abbrev fn_spec_plus : FuncId := 48
abbrev fn_impl_validPlace : FuncId := 49
abbrev fn_impl_commonFactor : FuncId := 50
abbrev fn_impl_Frac_plus : FuncId := 51
abbrev fn_runtime_boundsError_Error : FuncId := 52
abbrev fn_runtime_boundsError_RuntimeError : FuncId := 53
abbrev fn_runtime_errorString_Error : FuncId := 54
abbrev fn_runtime_errorString_RuntimeError : FuncId := 55
abbrev fn_runtime_plainError_Error : FuncId := 56
abbrev fn_runtime_plainError_RuntimeError : FuncId := 57
abbrev fn_runtime_errorAddressString_Error : FuncId := 58
abbrev fn_runtime_errorAddressString_RuntimeError : FuncId := 59
abbrev fn_runtime_TypeAssertionError_Error : FuncId := 60
abbrev fn_runtime_TypeAssertionError_RuntimeError : FuncId := 61
abbrev fn_runtime_PanicNilError_Error : FuncId := 62
abbrev fn_runtime_PanicNilError_RuntimeError : FuncId := 63
abbrev fn_internal_abi_Type_Align : FuncId := 64
abbrev fn_internal_runtime_maps_unhashableTypeError_Error : FuncId := 65
abbrev fn_internal_runtime_maps_unhashableTypeError_RuntimeError : FuncId := 66
abbrev fn_impl_Frac_compare : FuncId := 67
abbrev fn_cmp_Compare_int : FuncId := 68
abbrev fn_cmp_isNaN_int : FuncId := 69
abbrev fn_internal_abi_Kind_String : FuncId := 70
abbrev ty_abi_BoundsErrorCode : TypeId := 6
abbrev ty_maps_unhashableTypeError : TypeId := 19
abbrev ty_impl_Frac : TypeId := 24
abbrev ty_impl_point : TypeId := 40
abbrev ty_impl_line : TypeId := 46
abbrev ty_spec_reader : TypeId := 66
abbrev ty_abi_TFlag : TypeId := 77
abbrev ty_abi_Kind : TypeId := 78
abbrev ty_abi_NameOff : TypeId := 81
abbrev ty_abi_TypeOff : TypeId := 82
abbrev ty_abi_Type : TypeId := 84
theorem mixed : Try.prog.follows .mixedOrders = true := by kernel_rfl

def mc_laws_FnExactStripByThrees : MC :=
  .seq (.reg [⟨some 4, none, .mv (.c (.bool false))⟩]) (.seq (.seq (.reg [⟨some 11, none, .mv (.t 0)⟩, ⟨some 12, none, .len (.t 11)⟩, ⟨some 13, none, .bin .gtr (.t 12) (.c (.int .i64 1048576))⟩]) (.cond (.t 13) (.seq (.reg [⟨some 4, none, .mv (.c (.bool true))⟩]) .ret) .skip)) (.seq (.seq (.reg [⟨some 14, none, .mv (.t 1)⟩, ⟨some 15, none, .len (.t 14)⟩, ⟨some 16, none, .bin .gtr (.t 15) (.c (.int .i64 1048576))⟩]) (.cond (.t 16) (.seq (.reg [⟨some 4, none, .mv (.c (.bool true))⟩]) .ret) .skip)) (.seq (.reg [⟨some 18, none, .mv (.t 0)⟩, ⟨some 19, none, .call fn_laws_toIntS [.t 18]⟩, ⟨some 20, none, .mv (.t 1)⟩, ⟨some 21, none, .call fn_laws_toIntS [.t 20]⟩, ⟨some 22, none, .call fn_spec_StripByThrees [.t 19, .t 21]⟩, ⟨some 17, none, .mv (.t 22)⟩, ⟨some 23, none, .ext (.t 17) 0⟩, ⟨some 24, none, .ext (.t 17) 1⟩, ⟨some 5, none, .new [.int .i64 0, .int .i64 0]⟩, ⟨none, none, .st (.t 5) (.t 23) 2⟩, ⟨some 6, none, .mv (.t 24)⟩]) (.seq (.reg [⟨some 25, none, .mv (.t 0)⟩, ⟨some 26, none, .call fn_laws_toIntS [.t 25]⟩, ⟨some 7, none, .mv (.t 26)⟩]) (.seq (.reg [⟨some 27, none, .mv (.t 1)⟩, ⟨some 28, none, .call fn_laws_toIntS [.t 27]⟩, ⟨some 8, none, .mv (.t 28)⟩]) (.seq (.reg [⟨some 30, none, .mv (.t 7)⟩, ⟨some 31, none, .mv (.t 8)⟩, ⟨some 32, none, .call fn_impl_StripByThrees [.t 30, .t 31]⟩, ⟨some 29, none, .mv (.t 32)⟩, ⟨some 33, none, .ext (.t 29) 0⟩, ⟨some 34, none, .ext (.t 29) 1⟩, ⟨some 9, none, .new [.int .i64 0, .int .i64 0]⟩, ⟨none, none, .st (.t 9) (.t 33) 2⟩, ⟨some 10, none, .mv (.t 34)⟩]) (.seq (.seq (.reg [⟨some 35, none, .ld (.t 9) 2 true⟩, ⟨some 36, none, .ld (.t 5) 2 true⟩, ⟨some 37, none, .call fn_laws_eqFrac [.t 35, .t 36]⟩, ⟨some 38, none, .un .not (.t 37)⟩, ⟨some 39, none, .mv (.t 38)⟩, ⟨some 40, some (39, false), .mv (.t 10)⟩, ⟨some 41, some (39, false), .mv (.t 6)⟩, ⟨some 42, some (39, false), .beq true (.t 40) (.t 41)⟩, ⟨some 43, none, .pick (.t 39) (.c (.bool true)) (.t 42)⟩]) (.cond (.t 43) (.seq (.reg [⟨some 4, none, .mv (.c (.bool false))⟩]) .ret) .skip)) (.seq (.seq (.reg [⟨some 44, none, .mv (.t 7)⟩, ⟨some 45, none, .mv (.t 0)⟩, ⟨some 46, none, .call fn_laws_toIntS [.t 45]⟩, ⟨some 47, none, .call fn_laws_eqIntS [.t 44, .t 46]⟩, ⟨some 48, none, .un .not (.t 47)⟩]) (.cond (.t 48) (.seq (.reg [⟨some 4, none, .mv (.c (.bool false))⟩]) .ret) .skip)) (.seq (.seq (.reg [⟨some 49, none, .mv (.t 8)⟩, ⟨some 50, none, .mv (.t 1)⟩, ⟨some 51, none, .call fn_laws_toIntS [.t 50]⟩, ⟨some 52, none, .call fn_laws_eqIntS [.t 49, .t 51]⟩, ⟨some 53, none, .un .not (.t 52)⟩]) (.cond (.t 53) (.seq (.reg [⟨some 4, none, .mv (.c (.bool false))⟩]) .ret) .skip)) (.seq (.reg [⟨some 4, none, .mv (.c (.bool true))⟩]) .ret))))))))))
theorem code_laws_FnExactStripByThrees : HasCode Try.prog fn_laws_FnExactStripByThrees mc_laws_FnExactStripByThrees [.t 4] 54 := ⟨mixed, Try.f3, _, Try.func3, rfl, by kernel_rfl, by kernel_rfl, rfl, by kernel_rfl⟩

def mc_spec_StripByThrees : MC :=
  .seq (.reg [⟨some 4, none, .new [.int .i64 0, .int .i64 0]⟩, ⟨some 5, none, .mv (.c (.bool false))⟩]) (.seq (.seq (.reg [⟨some 12, none, .mv (.t 0)⟩, ⟨some 13, none, .mv (.t 1)⟩, ⟨some 14, none, .call fn_spec_validCloud [.t 12, .t 13]⟩, ⟨some 15, none, .un .not (.t 14)⟩]) (.cond (.t 15) (.seq (.reg [⟨some 16, none, .bld [.int .i64 0, .int .i64 0] []⟩, ⟨none, none, .st (.t 4) (.t 16) 2⟩, ⟨some 5, none, .mv (.c (.bool false))⟩]) .ret) .skip)) (.seq (.reg [⟨some 17, none, .call fn_spec_frac [.c (.int .i64 0), .c (.int .i64 1)]⟩, ⟨some 6, none, .new [.int .i64 0, .int .i64 0]⟩, ⟨none, none, .st (.t 6) (.t 17) 2⟩]) (.seq (.seq (.reg [⟨some 7, none, .mv (.c (.int .i64 0))⟩]) (.block 0 (.loop (.seq (.seq (.reg [⟨some 18, none, .mv (.t 7)⟩, ⟨some 19, none, .mv (.t 0)⟩, ⟨some 20, none, .len (.t 19)⟩, ⟨some 21, none, .bin .lss (.t 18) (.t 20)⟩]) (.cond (.t 21) .skip (.exit 0))) (.seq (.block 1 (.seq (.reg [⟨some 8, none, .mv (.c (.int .i64 0))⟩]) (.block 2 (.loop (.seq (.seq (.reg [⟨some 24, none, .mv (.t 8)⟩, ⟨some 25, none, .mv (.t 0)⟩, ⟨some 26, none, .len (.t 25)⟩, ⟨some 27, none, .bin .lss (.t 24) (.t 26)⟩]) (.cond (.t 27) .skip (.exit 2))) (.seq (.block 3 (.seq (.seq (.drq [⟨some 30, none, .mv (.t 0)⟩, ⟨some 31, none, .mv (.t 7)⟩, ⟨some 32, none, .ixa (.t 30) (.t 31) 1⟩, ⟨some 33, none, .ld (.t 32) 1 false⟩, ⟨some 34, none, .mv (.t 0)⟩, ⟨some 35, none, .mv (.t 8)⟩, ⟨some 36, none, .ixa (.t 34) (.t 35) 1⟩, ⟨some 37, none, .ld (.t 36) 1 false⟩, ⟨some 38, none, .bin .eql (.t 33) (.t 37)⟩]) (.cond (.t 38) (.seq (.drw [⟨some 39, none, .mv (.t 1)⟩, ⟨some 40, none, .mv (.t 7)⟩, ⟨some 41, none, .ixa (.t 39) (.t 40) 1⟩, ⟨some 42, none, .ld (.t 41) 1 false⟩, ⟨some 43, none, .mv (.t 1)⟩, ⟨some 44, none, .mv (.t 8)⟩, ⟨some 45, none, .ixa (.t 43) (.t 44) 1⟩, ⟨some 46, none, .ld (.t 45) 1 false⟩, ⟨some 47, none, .bin .sub (.t 42) (.t 46)⟩, ⟨some 48, none, .mv (.t 1)⟩, ⟨some 49, none, .mv (.t 8)⟩, ⟨some 50, none, .ixa (.t 48) (.t 49) 1⟩, ⟨some 51, none, .ld (.t 50) 1 false⟩, ⟨some 52, none, .mv (.t 1)⟩, ⟨some 53, none, .mv (.t 7)⟩, ⟨some 54, none, .ixa (.t 52) (.t 53) 1⟩, ⟨some 55, none, .ld (.t 54) 1 false⟩, ⟨some 56, none, .bin .sub (.t 51) (.t 55)⟩, ⟨some 57, none, .mnmx true (.t 47) [.t 56]⟩, ⟨some 58, none, .call fn_spec_frac [.t 57, .c (.int .i64 2)]⟩, ⟨some 9, none, .new [.int .i64 0, .int .i64 0]⟩, ⟨none, none, .st (.t 9) (.t 58) 2⟩] [(3, 20), (7, 20), (12, 20), (16, 20)]) (.seq (.reg [⟨some 59, none, .ld (.t 6) 2 true⟩, ⟨some 60, none, .ld (.t 9) 2 true⟩, ⟨some 61, none, .call fn_spec_less [.t 59, .t 60]⟩]) (.cond (.t 61) (.reg [⟨some 62, none, .ld (.t 9) 2 true⟩, ⟨none, none, .st (.t 6) (.t 62) 2⟩]) .skip))) .skip)) (.seq (.reg [⟨some 10, none, .mv (.c (.int .i64 0))⟩]) (.block 4 (.loop (.seq (.seq (.reg [⟨some 63, none, .mv (.t 10)⟩, ⟨some 64, none, .mv (.t 0)⟩, ⟨some 65, none, .len (.t 64)⟩, ⟨some 66, none, .bin .lss (.t 63) (.t 65)⟩]) (.cond (.t 66) .skip (.exit 4))) (.seq (.block 5 (.seq (.drq [⟨some 69, none, .mv (.t 0)⟩, ⟨some 70, none, .mv (.t 7)⟩, ⟨some 71, none, .ixa (.t 69) (.t 70) 1⟩, ⟨some 72, none, .ld (.t 71) 1 false⟩, ⟨some 73, none, .mv (.t 0)⟩, ⟨some 74, none, .mv (.t 8)⟩, ⟨some 75, none, .ixa (.t 73) (.t 74) 1⟩, ⟨some 76, none, .ld (.t 75) 1 false⟩, ⟨some 77, none, .bin .lss (.t 72) (.t 76)⟩, ⟨some 78, none, .mv (.t 77)⟩, ⟨some 79, some (78, true), .mv (.t 0)⟩, ⟨some 80, some (78, true), .mv (.t 7)⟩, ⟨some 81, some (78, true), .ixa (.t 79) (.t 80) 1⟩, ⟨some 82, some (78, true), .ld (.t 81) 1 false⟩, ⟨some 83, some (78, true), .mv (.t 0)⟩, ⟨some 84, some (78, true), .mv (.t 10)⟩, ⟨some 85, some (78, true), .ixa (.t 83) (.t 84) 1⟩, ⟨some 86, some (78, true), .ld (.t 85) 1 false⟩, ⟨some 87, some (78, true), .bin .leq (.t 82) (.t 86)⟩, ⟨some 88, none, .pick (.t 78) (.t 87) (.c (.bool false))⟩, ⟨some 89, none, .mv (.t 88)⟩, ⟨some 90, some (89, true), .mv (.t 0)⟩, ⟨some 91, some (89, true), .mv (.t 10)⟩, ⟨some 92, some (89, true), .ixa (.t 90) (.t 91) 1⟩, ⟨some 93, some (89, true), .ld (.t 92) 1 false⟩, ⟨some 94, some (89, true), .mv (.t 0)⟩, ⟨some 95, some (89, true), .mv (.t 8)⟩, ⟨some 96, some (89, true), .ixa (.t 94) (.t 95) 1⟩, ⟨some 97, some (89, true), .ld (.t 96) 1 false⟩, ⟨some 98, some (89, true), .bin .leq (.t 93) (.t 97)⟩, ⟨some 99, none, .pick (.t 89) (.t 98) (.c (.bool false))⟩]) (.cond (.t 99) (.seq (.reg [⟨some 100, none, .mv (.t 0)⟩, ⟨some 101, none, .mv (.t 1)⟩, ⟨some 102, none, .mv (.t 7)⟩, ⟨some 103, none, .mv (.t 10)⟩, ⟨some 104, none, .mv (.t 8)⟩, ⟨some 105, none, .call fn_spec_three [.t 100, .t 101, .t 102, .t 103, .t 104]⟩, ⟨some 11, none, .new [.int .i64 0, .int .i64 0]⟩, ⟨none, none, .st (.t 11) (.t 105) 2⟩]) (.seq (.reg [⟨some 106, none, .ld (.t 6) 2 true⟩, ⟨some 107, none, .ld (.t 11) 2 true⟩, ⟨some 108, none, .call fn_spec_less [.t 106, .t 107]⟩]) (.cond (.t 108) (.reg [⟨some 109, none, .ld (.t 11) 2 true⟩, ⟨none, none, .st (.t 6) (.t 109) 2⟩]) .skip))) .skip))) (.reg [⟨some 67, none, .mv (.t 10)⟩, ⟨some 68, none, .bin .add (.t 67) (.c (.int .i64 1))⟩, ⟨some 10, none, .mv (.t 68)⟩])))))))) (.reg [⟨some 28, none, .mv (.t 8)⟩, ⟨some 29, none, .bin .add (.t 28) (.c (.int .i64 1))⟩, ⟨some 8, none, .mv (.t 29)⟩]))))))) (.reg [⟨some 22, none, .mv (.t 7)⟩, ⟨some 23, none, .bin .add (.t 22) (.c (.int .i64 1))⟩, ⟨some 7, none, .mv (.t 23)⟩])))))) (.seq (.reg [⟨some 110, none, .ld (.t 6) 2 true⟩, ⟨none, none, .st (.t 4) (.t 110) 2⟩, ⟨some 5, none, .mv (.c (.bool true))⟩]) .ret))))
theorem code_spec_StripByThrees : HasCode Try.prog fn_spec_StripByThrees mc_spec_StripByThrees [.c 4 2 true, .t 5] 111 := ⟨mixed, Try.f5, _, Try.func5, rfl, by kernel_rfl, by kernel_rfl, rfl, by kernel_rfl⟩

def mc_laws_toIntS : MC :=
  .seq (.reg [⟨some 2, none, .mv (.c .nilSlice)⟩]) (.seq (.reg [⟨some 5, none, .mv (.t 0)⟩, ⟨some 6, none, .len (.t 5)⟩, ⟨some 7, none, .mks (.t 6) (.t 6) [.int .i64 0] 1 8⟩, ⟨some 3, none, .mv (.t 7)⟩]) (.seq (.seq (.reg [⟨some 4, none, .mv (.c (.int .i64 0))⟩]) (.block 0 (.loop (.seq (.seq (.reg [⟨some 8, none, .mv (.t 4)⟩, ⟨some 9, none, .mv (.t 0)⟩, ⟨some 10, none, .len (.t 9)⟩, ⟨some 11, none, .bin .lss (.t 8) (.t 10)⟩]) (.cond (.t 11) .skip (.exit 0))) (.seq (.block 1 (.reg [⟨some 14, none, .mv (.t 3)⟩, ⟨some 15, none, .mv (.t 4)⟩, ⟨some 16, none, .mv (.t 0)⟩, ⟨some 17, none, .mv (.t 4)⟩, ⟨some 18, none, .ixa (.t 16) (.t 17) 1⟩, ⟨some 19, none, .ld (.t 18) 1 false⟩, ⟨some 20, none, .ixa (.t 14) (.t 15) 1⟩, ⟨none, none, .st (.t 20) (.t 19) 1⟩])) (.reg [⟨some 12, none, .mv (.t 4)⟩, ⟨some 13, none, .bin .add (.t 12) (.c (.int .i64 1))⟩, ⟨some 4, none, .mv (.t 13)⟩])))))) (.seq (.reg [⟨some 21, none, .mv (.t 3)⟩, ⟨some 2, none, .mv (.t 21)⟩]) .ret)))
theorem code_laws_toIntS : HasCode Try.prog fn_laws_toIntS mc_laws_toIntS [.t 2] 22 := ⟨mixed, Try.f6, _, Try.func6, rfl, by kernel_rfl, by kernel_rfl, rfl, by kernel_rfl⟩

def mc_laws_eqFrac : MC :=
  .seq (.reg [⟨some 2, none, .box (.t 0)⟩, ⟨some 3, none, .box (.t 1)⟩, ⟨some 4, none, .mv (.c (.bool false))⟩]) (.seq (.seq (.reg [⟨some 5, none, .fa (.t 2) 0⟩, ⟨some 6, none, .ld (.t 5) 1 false⟩, ⟨some 7, none, .fa (.t 3) 0⟩, ⟨some 8, none, .ld (.t 7) 1 false⟩, ⟨some 9, none, .bin .neq (.t 6) (.t 8)⟩]) (.cond (.t 9) (.seq (.reg [⟨some 4, none, .mv (.c (.bool false))⟩]) .ret) .skip)) (.seq (.seq (.reg [⟨some 10, none, .fa (.t 2) 1⟩, ⟨some 11, none, .ld (.t 10) 1 false⟩, ⟨some 12, none, .fa (.t 3) 1⟩, ⟨some 13, none, .ld (.t 12) 1 false⟩, ⟨some 14, none, .bin .neq (.t 11) (.t 13)⟩]) (.cond (.t 14) (.seq (.reg [⟨some 4, none, .mv (.c (.bool false))⟩]) .ret) .skip)) (.seq (.reg [⟨some 4, none, .mv (.c (.bool true))⟩]) .ret)))
theorem code_laws_eqFrac : HasCode Try.prog fn_laws_eqFrac mc_laws_eqFrac [.t 4] 15 := ⟨mixed, Try.f8, _, Try.func8, rfl, by kernel_rfl, by kernel_rfl, rfl, by kernel_rfl⟩

def mc_laws_eqIntS : MC :=
  .seq (.reg [⟨some 4, none, .mv (.c (.bool false))⟩]) (.seq (.seq (.reg [⟨some 6, none, .mv (.t 0)⟩, ⟨some 7, none, .len (.t 6)⟩, ⟨some 8, none, .mv (.t 1)⟩, ⟨some 9, none, .len (.t 8)⟩, ⟨some 10, none, .bin .neq (.t 7) (.t 9)⟩]) (.cond (.t 10) (.seq (.reg [⟨some 4, none, .mv (.c (.bool false))⟩]) .ret) .skip)) (.seq (.seq (.reg [⟨some 5, none, .mv (.c (.int .i64 0))⟩]) (.block 0 (.loop (.seq (.seq (.reg [⟨some 11, none, .mv (.t 5)⟩, ⟨some 12, none, .mv (.t 0)⟩, ⟨some 13, none, .len (.t 12)⟩, ⟨some 14, none, .bin .lss (.t 11) (.t 13)⟩]) (.cond (.t 14) .skip (.exit 0))) (.seq (.block 1 (.seq (.drq [⟨some 17, none, .mv (.t 0)⟩, ⟨some 18, none, .mv (.t 5)⟩, ⟨some 19, none, .ixa (.t 17) (.t 18) 1⟩, ⟨some 20, none, .ld (.t 19) 1 false⟩, ⟨some 21, none, .mv (.t 1)⟩, ⟨some 22, none, .mv (.t 5)⟩, ⟨some 23, none, .ixa (.t 21) (.t 22) 1⟩, ⟨some 24, none, .ld (.t 23) 1 false⟩, ⟨some 25, none, .bin .neq (.t 20) (.t 24)⟩]) (.cond (.t 25) (.seq (.reg [⟨some 4, none, .mv (.c (.bool false))⟩]) .ret) .skip))) (.reg [⟨some 15, none, .mv (.t 5)⟩, ⟨some 16, none, .bin .add (.t 15) (.c (.int .i64 1))⟩, ⟨some 5, none, .mv (.t 16)⟩])))))) (.seq (.reg [⟨some 4, none, .mv (.c (.bool true))⟩]) .ret)))
theorem code_laws_eqIntS : HasCode Try.prog fn_laws_eqIntS mc_laws_eqIntS [.t 4] 26 := ⟨mixed, Try.f9, _, Try.func9, rfl, by kernel_rfl, by kernel_rfl, rfl, by kernel_rfl⟩

def mc_spec_validCloud : MC :=
  .seq (.reg [⟨some 4, none, .mv (.c (.bool false))⟩]) (.seq (.reg [⟨some 5, none, .mv (.t 0)⟩, ⟨some 6, none, .mv (.t 1)⟩, ⟨some 7, none, .call fn_spec_validPoints [.t 5, .t 6]⟩, ⟨some 8, none, .mv (.t 7)⟩, ⟨some 9, some (8, true), .mv (.t 0)⟩, ⟨some 10, some (8, true), .call fn_spec_wide [.t 9]⟩, ⟨some 11, none, .pick (.t 8) (.t 10) (.c (.bool false))⟩, ⟨some 4, none, .mv (.t 11)⟩]) .ret)
theorem code_spec_validCloud : HasCode Try.prog fn_spec_validCloud mc_spec_validCloud [.t 4] 12 := ⟨mixed, Try.f14, _, Try.func14, rfl, by kernel_rfl, by kernel_rfl, rfl, by kernel_rfl⟩

def mc_spec_frac : MC :=
  .seq (.reg [⟨some 4, none, .new [.int .i64 0, .int .i64 0]⟩]) (.seq (.seq (.reg [⟨some 6, none, .mv (.t 1)⟩, ⟨some 7, none, .bin .lss (.t 6) (.c (.int .i64 0))⟩]) (.cond (.t 7) (.seq (.reg [⟨some 8, none, .mv (.t 0)⟩, ⟨some 9, none, .un .neg (.t 8)⟩, ⟨some 0, none, .mv (.t 9)⟩]) (.reg [⟨some 10, none, .mv (.t 1)⟩, ⟨some 11, none, .un .neg (.t 10)⟩, ⟨some 1, none, .mv (.t 11)⟩])) .skip)) (.seq (.reg [⟨some 12, none, .mv (.t 0)⟩, ⟨some 13, none, .mv (.t 1)⟩, ⟨some 14, none, .call fn_spec_gcd [.t 12, .t 13]⟩, ⟨some 5, none, .mv (.t 14)⟩]) (.seq (.drw [⟨some 15, none, .mv (.t 0)⟩, ⟨some 16, none, .mv (.t 5)⟩, ⟨some 17, none, .bin .quo (.t 15) (.t 16)⟩, ⟨some 18, none, .mv (.t 1)⟩, ⟨some 19, none, .mv (.t 5)⟩, ⟨some 20, none, .bin .quo (.t 18) (.t 19)⟩, ⟨some 21, none, .bld [.int .i64 0, .int .i64 0] [(0, 1, .t 17), (1, 1, .t 20)]⟩, ⟨none, none, .st (.t 4) (.t 21) 2⟩] []) .ret)))
theorem code_spec_frac : HasCode Try.prog fn_spec_frac mc_spec_frac [.c 4 2 true] 22 := ⟨mixed, Try.f15, _, Try.func15, rfl, by kernel_rfl, by kernel_rfl, rfl, by kernel_rfl⟩

def mc_spec_less : MC :=
  .seq (.reg [⟨some 2, none, .box (.t 0)⟩, ⟨some 3, none, .box (.t 1)⟩, ⟨some 4, none, .mv (.c (.bool false))⟩]) (.seq (.reg [⟨some 5, none, .fa (.t 2) 0⟩, ⟨some 6, none, .ld (.t 5) 1 false⟩, ⟨some 7, none, .fa (.t 3) 1⟩, ⟨some 8, none, .ld (.t 7) 1 false⟩, ⟨some 9, none, .bin .mul (.t 6) (.t 8)⟩, ⟨some 10, none, .fa (.t 3) 0⟩, ⟨some 11, none, .ld (.t 10) 1 false⟩, ⟨some 12, none, .fa (.t 2) 1⟩, ⟨some 13, none, .ld (.t 12) 1 false⟩, ⟨some 14, none, .bin .mul (.t 11) (.t 13)⟩, ⟨some 15, none, .bin .lss (.t 9) (.t 14)⟩, ⟨some 4, none, .mv (.t 15)⟩]) .ret)
theorem code_spec_less : HasCode Try.prog fn_spec_less mc_spec_less [.t 4] 16 := ⟨mixed, Try.f16, _, Try.func16, rfl, by kernel_rfl, by kernel_rfl, rfl, by kernel_rfl⟩

def mc_spec_three : MC :=
  .seq (.reg [⟨some 10, none, .new [.int .i64 0, .int .i64 0]⟩]) (.seq (.seq (.drq [⟨some 13, none, .mv (.t 0)⟩, ⟨some 14, none, .mv (.t 2)⟩, ⟨some 15, none, .ixa (.t 13) (.t 14) 1⟩, ⟨some 16, none, .ld (.t 15) 1 false⟩, ⟨some 17, none, .mv (.t 0)⟩, ⟨some 18, none, .mv (.t 4)⟩, ⟨some 19, none, .ixa (.t 17) (.t 18) 1⟩, ⟨some 20, none, .ld (.t 19) 1 false⟩, ⟨some 21, none, .bin .eql (.t 16) (.t 20)⟩]) (.cond (.t 21) (.seq (.reg [⟨some 22, none, .call fn_spec_frac [.c (.int .i64 0), .c (.int .i64 1)]⟩, ⟨none, none, .st (.t 10) (.t 22) 2⟩]) .ret) .skip)) (.seq (.drw [⟨some 23, none, .mv (.t 1)⟩, ⟨some 24, none, .mv (.t 4)⟩, ⟨some 25, none, .ixa (.t 23) (.t 24) 1⟩, ⟨some 26, none, .ld (.t 25) 1 false⟩, ⟨some 27, none, .mv (.t 1)⟩, ⟨some 28, none, .mv (.t 2)⟩, ⟨some 29, none, .ixa (.t 27) (.t 28) 1⟩, ⟨some 30, none, .ld (.t 29) 1 false⟩, ⟨some 31, none, .bin .sub (.t 26) (.t 30)⟩, ⟨some 32, none, .mv (.t 0)⟩, ⟨some 33, none, .mv (.t 4)⟩, ⟨some 34, none, .ixa (.t 32) (.t 33) 1⟩, ⟨some 35, none, .ld (.t 34) 1 false⟩, ⟨some 36, none, .mv (.t 0)⟩, ⟨some 37, none, .mv (.t 2)⟩, ⟨some 38, none, .ixa (.t 36) (.t 37) 1⟩, ⟨some 39, none, .ld (.t 38) 1 false⟩, ⟨some 40, none, .bin .sub (.t 35) (.t 39)⟩, ⟨some 41, none, .call fn_spec_frac [.t 31, .t 40]⟩, ⟨some 11, none, .new [.int .i64 0, .int .i64 0]⟩, ⟨none, none, .st (.t 11) (.t 41) 2⟩] [(3, 19), (7, 19), (12, 19), (16, 19)]) (.seq (.drw [⟨some 42, none, .mv (.t 0)⟩, ⟨some 43, none, .mv (.t 3)⟩, ⟨some 44, none, .ixa (.t 42) (.t 43) 1⟩, ⟨some 45, none, .ld (.t 44) 1 false⟩, ⟨some 46, none, .mv (.t 1)⟩, ⟨some 47, none, .mv (.t 3)⟩, ⟨some 48, none, .ixa (.t 46) (.t 47) 1⟩, ⟨some 49, none, .ld (.t 48) 1 false⟩, ⟨some 50, none, .ld (.t 11) 2 true⟩, ⟨some 51, none, .mv (.t 0)⟩, ⟨some 52, none, .mv (.t 2)⟩, ⟨some 53, none, .ixa (.t 51) (.t 52) 1⟩, ⟨some 54, none, .ld (.t 53) 1 false⟩, ⟨some 55, none, .mv (.t 1)⟩, ⟨some 56, none, .mv (.t 2)⟩, ⟨some 57, none, .ixa (.t 55) (.t 56) 1⟩, ⟨some 58, none, .ld (.t 57) 1 false⟩, ⟨some 59, none, .ld (.t 11) 2 true⟩, ⟨some 60, none, .call fn_spec_frac [.c (.int .i64 0), .c (.int .i64 1)]⟩, ⟨some 61, none, .call fn_spec_over [.t 54, .t 58, .t 59, .t 60]⟩, ⟨some 62, none, .call fn_spec_over [.t 45, .t 49, .t 50, .t 61]⟩, ⟨some 12, none, .new [.int .i64 0, .int .i64 0]⟩, ⟨none, none, .st (.t 12) (.t 62) 2⟩] [(3, 21), (7, 21), (8, 21), (12, 21), (16, 21), (17, 21)]) (.seq (.reg [⟨some 63, none, .ld (.t 12) 2 true⟩, ⟨some 64, none, .call fn_spec_size [.t 63]⟩, ⟨some 65, none, .call fn_spec_frac [.c (.int .i64 1), .c (.int .i64 2)]⟩, ⟨some 66, none, .call fn_spec_times [.t 64, .t 65]⟩, ⟨none, none, .st (.t 10) (.t 66) 2⟩]) .ret))))
theorem code_spec_three : HasCode Try.prog fn_spec_three mc_spec_three [.c 10 2 true] 67 := ⟨mixed, Try.f17, _, Try.func17, rfl, by kernel_rfl, by kernel_rfl, rfl, by kernel_rfl⟩

def mc_spec_validPoints : MC :=
  .seq (.reg [⟨some 4, none, .mv (.c (.bool false))⟩]) (.seq (.seq (.reg [⟨some 5, none, .mv (.c (.int .i64 0))⟩]) (.block 0 (.loop (.seq (.seq (.reg [⟨some 6, none, .mv (.t 5)⟩, ⟨some 7, none, .mv (.t 0)⟩, ⟨some 8, none, .len (.t 7)⟩, ⟨some 9, none, .bin .lss (.t 6) (.t 8)⟩]) (.cond (.t 9) .skip (.exit 0))) (.seq (.block 1 (.seq (.reg [⟨some 12, none, .mv (.t 5)⟩, ⟨some 13, none, .mv (.t 1)⟩, ⟨some 14, none, .len (.t 13)⟩, ⟨some 15, none, .bin .geq (.t 12) (.t 14)⟩, ⟨some 16, none, .mv (.t 15)⟩, ⟨some 17, some (16, false), .mv (.t 0)⟩, ⟨some 18, some (16, false), .mv (.t 5)⟩, ⟨some 19, some (16, false), .ixa (.t 17) (.t 18) 1⟩, ⟨some 20, some (16, false), .ld (.t 19) 1 false⟩, ⟨some 21, some (16, false), .call fn_spec_inRange [.t 20, .c (.int .i64 (-12)), .c (.int .i64 12)]⟩, ⟨some 22, some (16, false), .un .not (.t 21)⟩, ⟨some 23, none, .pick (.t 16) (.c (.bool true)) (.t 22)⟩, ⟨some 24, none, .mv (.t 23)⟩, ⟨some 25, some (24, false), .mv (.t 1)⟩, ⟨some 26, some (24, false), .mv (.t 5)⟩, ⟨some 27, some (24, false), .ixa (.t 25) (.t 26) 1⟩, ⟨some 28, some (24, false), .ld (.t 27) 1 false⟩, ⟨some 29, some (24, false), .call fn_spec_inRange [.t 28, .c (.int .i64 (-12)), .c (.int .i64 12)]⟩, ⟨some 30, some (24, false), .un .not (.t 29)⟩, ⟨some 31, none, .pick (.t 24) (.c (.bool true)) (.t 30)⟩]) (.cond (.t 31) (.seq (.reg [⟨some 4, none, .mv (.c (.bool false))⟩]) .ret) .skip))) (.reg [⟨some 10, none, .mv (.t 5)⟩, ⟨some 11, none, .bin .add (.t 10) (.c (.int .i64 1))⟩, ⟨some 5, none, .mv (.t 11)⟩])))))) (.seq (.reg [⟨some 32, none, .mv (.t 0)⟩, ⟨some 33, none, .len (.t 32)⟩, ⟨some 34, none, .mv (.t 1)⟩, ⟨some 35, none, .len (.t 34)⟩, ⟨some 36, none, .bin .eql (.t 33) (.t 35)⟩, ⟨some 37, none, .mv (.t 36)⟩, ⟨some 38, some (37, true), .mv (.t 0)⟩, ⟨some 39, some (37, true), .len (.t 38)⟩, ⟨some 40, some (37, true), .bin .leq (.t 39) (.c (.int .i64 7))⟩, ⟨some 41, none, .pick (.t 37) (.t 40) (.c (.bool false))⟩, ⟨some 4, none, .mv (.t 41)⟩]) .ret))
theorem code_spec_validPoints : HasCode Try.prog fn_spec_validPoints mc_spec_validPoints [.t 4] 42 := ⟨mixed, Try.f30, _, Try.func30, rfl, by kernel_rfl, by kernel_rfl, rfl, by kernel_rfl⟩

def mc_spec_wide : MC :=
  .seq (.reg [⟨some 2, none, .mv (.c (.bool false))⟩]) (.seq (.seq (.reg [⟨some 3, none, .mv (.c (.int .i64 1))⟩]) (.block 0 (.loop (.seq (.seq (.reg [⟨some 4, none, .mv (.t 3)⟩, ⟨some 5, none, .mv (.t 0)⟩, ⟨some 6, none, .len (.t 5)⟩, ⟨some 7, none, .bin .lss (.t 4) (.t 6)⟩]) (.cond (.t 7) .skip (.exit 0))) (.seq (.block 1 (.seq (.drq [⟨some 10, none, .mv (.t 0)⟩, ⟨some 11, none, .mv (.t 3)⟩, ⟨some 12, none, .ixa (.t 10) (.t 11) 1⟩, ⟨some 13, none, .ld (.t 12) 1 false⟩, ⟨some 14, none, .mv (.t 0)⟩, ⟨some 15, none, .ixa (.t 14) (.c (.int .i64 0)) 1⟩, ⟨some 16, none, .ld (.t 15) 1 false⟩, ⟨some 17, none, .bin .neq (.t 13) (.t 16)⟩]) (.cond (.t 17) (.seq (.reg [⟨some 2, none, .mv (.c (.bool true))⟩]) .ret) .skip))) (.reg [⟨some 8, none, .mv (.t 3)⟩, ⟨some 9, none, .bin .add (.t 8) (.c (.int .i64 1))⟩, ⟨some 3, none, .mv (.t 9)⟩])))))) (.seq (.reg [⟨some 2, none, .mv (.c (.bool false))⟩]) .ret))
theorem code_spec_wide : HasCode Try.prog fn_spec_wide mc_spec_wide [.t 2] 18 := ⟨mixed, Try.f31, _, Try.func31, rfl, by kernel_rfl, by kernel_rfl, rfl, by kernel_rfl⟩

def mc_spec_gcd : MC :=
  .seq (.reg [⟨some 4, none, .mv (.c (.int .i64 0))⟩]) (.seq (.block 0 (.loop (.seq (.seq (.reg [⟨some 6, none, .mv (.t 1)⟩, ⟨some 7, none, .bin .neq (.t 6) (.c (.int .i64 0))⟩]) (.cond (.t 7) .skip (.exit 0))) (.block 1 (.seq (.reg [⟨some 8, none, .mv (.t 0)⟩, ⟨some 9, none, .mv (.t 1)⟩, ⟨some 10, none, .bin .rem (.t 8) (.t 9)⟩, ⟨some 5, none, .mv (.t 10)⟩]) (.seq (.reg [⟨some 11, none, .mv (.t 1)⟩, ⟨some 0, none, .mv (.t 11)⟩]) (.reg [⟨some 12, none, .mv (.t 5)⟩, ⟨some 1, none, .mv (.t 12)⟩]))))))) (.seq (.reg [⟨some 13, none, .mv (.t 0)⟩, ⟨some 14, none, .mv (.t 0)⟩, ⟨some 15, none, .un .neg (.t 14)⟩, ⟨some 16, none, .mnmx true (.t 13) [.t 15]⟩, ⟨some 4, none, .mv (.t 16)⟩]) .ret))
theorem code_spec_gcd : HasCode Try.prog fn_spec_gcd mc_spec_gcd [.t 4] 17 := ⟨mixed, Try.f32, _, Try.func32, rfl, by kernel_rfl, by kernel_rfl, rfl, by kernel_rfl⟩

def mc_spec_over : MC :=
  .seq (.reg [⟨some 6, none, .box (.t 2)⟩, ⟨some 7, none, .box (.t 3)⟩, ⟨some 8, none, .new [.int .i64 0, .int .i64 0]⟩]) (.seq (.drc [⟨some 9, none, .mv (.t 1)⟩, ⟨some 10, none, .call fn_spec_frac [.t 9, .c (.int .i64 1)]⟩, ⟨some 11, none, .ld (.t 6) 2 true⟩, ⟨some 12, none, .mv (.t 0)⟩, ⟨some 13, none, .call fn_spec_frac [.t 12, .c (.int .i64 1)]⟩, ⟨some 14, none, .call fn_spec_times [.t 11, .t 13]⟩, ⟨some 15, none, .ld (.t 7) 2 true⟩, ⟨some 16, none, .call fn_spec_plus [.t 14, .t 15]⟩, ⟨some 17, none, .call fn_spec_minus [.t 10, .t 16]⟩, ⟨none, none, .st (.t 8) (.t 17) 2⟩] []) .ret)
theorem code_spec_over : HasCode Try.prog fn_spec_over mc_spec_over [.c 8 2 true] 18 := ⟨mixed, Try.f33, _, Try.func33, rfl, by kernel_rfl, by kernel_rfl, rfl, by kernel_rfl⟩

def mc_spec_times : MC :=
  .seq (.reg [⟨some 2, none, .box (.t 0)⟩, ⟨some 3, none, .box (.t 1)⟩, ⟨some 4, none, .new [.int .i64 0, .int .i64 0]⟩]) (.seq (.reg [⟨some 5, none, .fa (.t 2) 0⟩, ⟨some 6, none, .ld (.t 5) 1 false⟩, ⟨some 7, none, .fa (.t 3) 0⟩, ⟨some 8, none, .ld (.t 7) 1 false⟩, ⟨some 9, none, .bin .mul (.t 6) (.t 8)⟩, ⟨some 10, none, .fa (.t 2) 1⟩, ⟨some 11, none, .ld (.t 10) 1 false⟩, ⟨some 12, none, .fa (.t 3) 1⟩, ⟨some 13, none, .ld (.t 12) 1 false⟩, ⟨some 14, none, .bin .mul (.t 11) (.t 13)⟩, ⟨some 15, none, .call fn_spec_frac [.t 9, .t 14]⟩, ⟨none, none, .st (.t 4) (.t 15) 2⟩]) .ret)
theorem code_spec_times : HasCode Try.prog fn_spec_times mc_spec_times [.c 4 2 true] 16 := ⟨mixed, Try.f34, _, Try.func34, rfl, by kernel_rfl, by kernel_rfl, rfl, by kernel_rfl⟩

def mc_spec_size : MC :=
  .seq (.reg [⟨some 1, none, .box (.t 0)⟩, ⟨some 2, none, .new [.int .i64 0, .int .i64 0]⟩]) (.seq (.reg [⟨some 3, none, .fa (.t 1) 0⟩, ⟨some 4, none, .ld (.t 3) 1 false⟩, ⟨some 5, none, .fa (.t 1) 0⟩, ⟨some 6, none, .ld (.t 5) 1 false⟩, ⟨some 7, none, .un .neg (.t 6)⟩, ⟨some 8, none, .mnmx true (.t 4) [.t 7]⟩, ⟨some 9, none, .fa (.t 1) 1⟩, ⟨some 10, none, .ld (.t 9) 1 false⟩, ⟨some 11, none, .bld [.int .i64 0, .int .i64 0] [(0, 1, .t 8), (1, 1, .t 10)]⟩, ⟨none, none, .st (.t 2) (.t 11) 2⟩]) .ret)
theorem code_spec_size : HasCode Try.prog fn_spec_size mc_spec_size [.c 2 2 true] 12 := ⟨mixed, Try.f35, _, Try.func35, rfl, by kernel_rfl, by kernel_rfl, rfl, by kernel_rfl⟩

def mc_spec_inRange : MC :=
  .seq (.reg [⟨some 6, none, .mv (.c (.bool false))⟩]) (.seq (.reg [⟨some 7, none, .mv (.t 1)⟩, ⟨some 8, none, .mv (.t 0)⟩, ⟨some 9, none, .bin .leq (.t 7) (.t 8)⟩, ⟨some 10, none, .mv (.t 9)⟩, ⟨some 11, some (10, true), .mv (.t 0)⟩, ⟨some 12, some (10, true), .mv (.t 2)⟩, ⟨some 13, some (10, true), .bin .leq (.t 11) (.t 12)⟩, ⟨some 14, none, .pick (.t 10) (.t 13) (.c (.bool false))⟩, ⟨some 6, none, .mv (.t 14)⟩]) .ret)
theorem code_spec_inRange : HasCode Try.prog fn_spec_inRange mc_spec_inRange [.t 6] 15 := ⟨mixed, Try.f46, _, Try.func46, rfl, by kernel_rfl, by kernel_rfl, rfl, by kernel_rfl⟩

def mc_spec_minus : MC :=
  .seq (.reg [⟨some 2, none, .box (.t 0)⟩, ⟨some 3, none, .box (.t 1)⟩, ⟨some 4, none, .new [.int .i64 0, .int .i64 0]⟩]) (.seq (.reg [⟨some 5, none, .fa (.t 2) 0⟩, ⟨some 6, none, .ld (.t 5) 1 false⟩, ⟨some 7, none, .fa (.t 3) 1⟩, ⟨some 8, none, .ld (.t 7) 1 false⟩, ⟨some 9, none, .bin .mul (.t 6) (.t 8)⟩, ⟨some 10, none, .fa (.t 3) 0⟩, ⟨some 11, none, .ld (.t 10) 1 false⟩, ⟨some 12, none, .fa (.t 2) 1⟩, ⟨some 13, none, .ld (.t 12) 1 false⟩, ⟨some 14, none, .bin .mul (.t 11) (.t 13)⟩, ⟨some 15, none, .bin .sub (.t 9) (.t 14)⟩, ⟨some 16, none, .fa (.t 2) 1⟩, ⟨some 17, none, .ld (.t 16) 1 false⟩, ⟨some 18, none, .fa (.t 3) 1⟩, ⟨some 19, none, .ld (.t 18) 1 false⟩, ⟨some 20, none, .bin .mul (.t 17) (.t 19)⟩, ⟨some 21, none, .call fn_spec_frac [.t 15, .t 20]⟩, ⟨none, none, .st (.t 4) (.t 21) 2⟩]) .ret)
theorem code_spec_minus : HasCode Try.prog fn_spec_minus mc_spec_minus [.c 4 2 true] 22 := ⟨mixed, Try.f47, _, Try.func47, rfl, by kernel_rfl, by kernel_rfl, rfl, by kernel_rfl⟩

def mc_spec_plus : MC :=
  .seq (.reg [⟨some 2, none, .box (.t 0)⟩, ⟨some 3, none, .box (.t 1)⟩, ⟨some 4, none, .new [.int .i64 0, .int .i64 0]⟩]) (.seq (.reg [⟨some 5, none, .fa (.t 2) 0⟩, ⟨some 6, none, .ld (.t 5) 1 false⟩, ⟨some 7, none, .fa (.t 3) 1⟩, ⟨some 8, none, .ld (.t 7) 1 false⟩, ⟨some 9, none, .bin .mul (.t 6) (.t 8)⟩, ⟨some 10, none, .fa (.t 3) 0⟩, ⟨some 11, none, .ld (.t 10) 1 false⟩, ⟨some 12, none, .fa (.t 2) 1⟩, ⟨some 13, none, .ld (.t 12) 1 false⟩, ⟨some 14, none, .bin .mul (.t 11) (.t 13)⟩, ⟨some 15, none, .bin .add (.t 9) (.t 14)⟩, ⟨some 16, none, .fa (.t 2) 1⟩, ⟨some 17, none, .ld (.t 16) 1 false⟩, ⟨some 18, none, .fa (.t 3) 1⟩, ⟨some 19, none, .ld (.t 18) 1 false⟩, ⟨some 20, none, .bin .mul (.t 17) (.t 19)⟩, ⟨some 21, none, .call fn_spec_frac [.t 15, .t 20]⟩, ⟨none, none, .st (.t 4) (.t 21) 2⟩]) .ret)
theorem code_spec_plus : HasCode Try.prog fn_spec_plus mc_spec_plus [.c 4 2 true] 22 := ⟨mixed, Try.f48, _, Try.func48, rfl, by kernel_rfl, by kernel_rfl, rfl, by kernel_rfl⟩

end Go.Rx.Try
