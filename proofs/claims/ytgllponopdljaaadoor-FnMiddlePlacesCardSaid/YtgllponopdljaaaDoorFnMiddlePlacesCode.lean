/-
  The code of each function of the program, taken up. Made by a program.
-/
import Derived.Test.YtgllponopdljaaaDoorProg
import Derived.Test.YtgllponopdljaaaDoorRxI
import Derived.KernelRfl
namespace Go.Rx.Try
open Go.Proofs
set_option maxRecDepth 100000

abbrev fn_laws_FnTailChance : FuncId := 3
abbrev fn_laws_FnLowBound : FuncId := 4
abbrev fn_laws_FnHighBound : FuncId := 5
abbrev fn_laws_FnTwoSides : FuncId := 6
abbrev fn_laws_FnMiddlePlaces : FuncId := 7
abbrev fn_laws_FnExactTailChance : FuncId := 8
abbrev fn_laws_FnExactLowBound : FuncId := 9
abbrev fn_laws_FnExactHighBound : FuncId := 10
abbrev fn_laws_FnExactTwoSides : FuncId := 11
abbrev fn_laws_FnExactMiddlePlaces : FuncId := 12
abbrev fn_spec_DrawTailChance : FuncId := 13
abbrev fn_impl_TailChance : FuncId := 14
abbrev fn_spec_TailChance : FuncId := 15
abbrev fn_laws_raised : FuncId := 16
abbrev fn_spec_DrawLowBound : FuncId := 17
abbrev fn_impl_LowBound : FuncId := 18
abbrev fn_spec_LowBound : FuncId := 19
abbrev fn_spec_DrawHighBound : FuncId := 20
abbrev fn_impl_HighBound : FuncId := 21
abbrev fn_spec_HighBound : FuncId := 22
abbrev fn_spec_DrawTwoSides : FuncId := 23
abbrev fn_impl_TwoSides : FuncId := 24
abbrev fn_laws_equalInts : FuncId := 25
abbrev fn_spec_TwoSides : FuncId := 26
abbrev fn_spec_DrawMiddlePlaces : FuncId := 27
abbrev fn_impl_MiddlePlaces : FuncId := 28
abbrev fn_spec_MiddlePlaces : FuncId := 29
abbrev fn_laws_choose : FuncId := 30
abbrev fn_laws_eqIntS : FuncId := 31
abbrev fn_laws_markIntS : FuncId := 32
abbrev fn_laws_heldIntS : FuncId := 33
abbrev fn_spec_newReader : FuncId := 34
abbrev fn_spec_reader_one : FuncId := 35
abbrev fn_spec_reader_pick : FuncId := 36
abbrev fn_impl_tries_valid : FuncId := 37
abbrev fn_impl_tries_atLeast : FuncId := 38
abbrev fn_impl_tries_all : FuncId := 39
abbrev fn_spec_validTries : FuncId := 40
abbrev fn_spec_tail : FuncId := 41
abbrev fn_spec_raise : FuncId := 42
abbrev fn_spec_aLevel : FuncId := 43
abbrev fn_impl_validBound : FuncId := 44
abbrev fn_impl_part_holds : FuncId := 45
abbrev fn_spec_inRange : FuncId := 46
abbrev fn_spec_validLevel : FuncId := 47
abbrev fn_impl_tries_atMost : FuncId := 48
abbrev fn_impl_tries_waysOf : FuncId := 49
abbrev fn_impl_TwoSides_1 : FuncId := 50
abbrev fn_impl_tries_ways : FuncId := 51
abbrev fn_impl_TwoSides_2 : FuncId := 52
abbrev fn_impl_tries_gap : FuncId := 53
abbrev fn_spec_term : FuncId := 54
abbrev fn_impl_part_valid : FuncId := 55
abbrev fn_impl_power : FuncId := 56
abbrev fn_spec_power : FuncId := 57
abbrev fn_spec_choose : FuncId := 58
abbrev fn_impl_tries_atLeast_1 : FuncId := 59
abbrev fn_impl_tries_atMost_1 : FuncId := 60
abbrev fn_runtime_boundsError_Error : FuncId := 61
abbrev fn_runtime_boundsError_RuntimeError : FuncId := 62
abbrev fn_runtime_errorString_Error : FuncId := 63
abbrev fn_runtime_errorString_RuntimeError : FuncId := 64
abbrev fn_runtime_plainError_Error : FuncId := 65
abbrev fn_runtime_plainError_RuntimeError : FuncId := 66
abbrev fn_runtime_errorAddressString_Error : FuncId := 67
abbrev fn_runtime_errorAddressString_RuntimeError : FuncId := 68
abbrev fn_runtime_TypeAssertionError_Error : FuncId := 69
abbrev fn_runtime_TypeAssertionError_RuntimeError : FuncId := 70
abbrev fn_runtime_PanicNilError_Error : FuncId := 71
abbrev fn_runtime_PanicNilError_RuntimeError : FuncId := 72
abbrev fn_internal_abi_Type_Align : FuncId := 73
abbrev fn_internal_runtime_maps_unhashableTypeError_Error : FuncId := 74
abbrev fn_internal_runtime_maps_unhashableTypeError_RuntimeError : FuncId := 75
abbrev fn_internal_abi_Kind_String : FuncId := 76
abbrev fn_var_s_door_gosem_cut_vars_holds_initialisers_alone_see_the_manifest_s_row_cutvarsword_look_11_test_files_too : FuncId := 77
abbrev fn_var_s_door_impl_setCounts_is_laid_by_its_own_initialiser_plain_data_look_11 : FuncId := 78
abbrev fn_var_s_door_the_look_of_gosem_cut_vars_went_over_the_folder_that_the_caller_named_as_the_repository_s_root_look_11 : FuncId := 79
abbrev fn_gosem_cut_vars : FuncId := 80
abbrev gl_impl_setCounts : Nat := 0
theorem mixed : Tryd.prog.follows .mixedOrders = true := by kernel_rfl

def mc_laws_FnMiddlePlaces : MC :=
  .seq (.reg [⟨some 2, none, .mv (.c (.bool false))⟩]) (.seq (.seq (.reg [⟨some 12, none, .mv (.t 0)⟩, ⟨some 13, none, .len (.t 12)⟩, ⟨some 14, none, .bin .gtr (.t 13) (.c (.int .i64 1048576))⟩]) (.cond (.t 14) (.seq (.reg [⟨some 2, none, .mv (.c (.bool true))⟩]) .ret) .skip)) (.seq (.reg [⟨some 16, none, .mv (.t 0)⟩, ⟨some 17, none, .call fn_spec_DrawMiddlePlaces [.t 16]⟩, ⟨some 15, none, .mv (.t 17)⟩, ⟨some 18, none, .ext (.t 15) 0⟩, ⟨some 19, none, .ext (.t 15) 1⟩, ⟨some 20, none, .ext (.t 15) 2⟩, ⟨some 3, none, .mv (.t 18)⟩, ⟨some 4, none, .mv (.t 19)⟩, ⟨some 5, none, .mv (.t 20)⟩]) (.seq (.reg [⟨some 22, none, .mv (.t 3)⟩, ⟨some 23, none, .mv (.t 4)⟩, ⟨some 24, none, .mv (.t 5)⟩, ⟨some 25, none, .call fn_impl_MiddlePlaces [.t 22, .t 23, .t 24]⟩, ⟨some 21, none, .mv (.t 25)⟩, ⟨some 26, none, .ext (.t 21) 0⟩, ⟨some 27, none, .ext (.t 21) 1⟩, ⟨some 6, none, .mv (.t 26)⟩, ⟨some 7, none, .mv (.t 27)⟩]) (.seq (.reg [⟨some 29, none, .mv (.t 3)⟩, ⟨some 30, none, .mv (.t 4)⟩, ⟨some 31, none, .mv (.t 5)⟩, ⟨some 32, none, .call fn_spec_MiddlePlaces [.t 29, .t 30, .t 31]⟩, ⟨some 28, none, .mv (.t 32)⟩, ⟨some 33, none, .ext (.t 28) 0⟩, ⟨some 34, none, .ext (.t 28) 1⟩, ⟨some 8, none, .mv (.t 33)⟩, ⟨some 9, none, .mv (.t 34)⟩]) (.seq (.seq (.reg [⟨some 35, none, .mv (.t 6)⟩, ⟨some 36, none, .mv (.t 8)⟩, ⟨some 37, none, .bin .neq (.t 35) (.t 36)⟩, ⟨some 38, none, .mv (.t 37)⟩, ⟨some 39, some (38, false), .mv (.t 7)⟩, ⟨some 40, some (38, false), .mv (.t 9)⟩, ⟨some 41, some (38, false), .bin .neq (.t 39) (.t 40)⟩, ⟨some 42, none, .pick (.t 38) (.c (.bool true)) (.t 41)⟩, ⟨some 43, none, .mv (.t 42)⟩, ⟨some 44, some (43, false), .mv (.t 6)⟩, ⟨some 45, some (43, false), .bin .lss (.t 44) (.c (.int .i64 0))⟩, ⟨some 46, none, .pick (.t 43) (.c (.bool true)) (.t 45)⟩]) (.cond (.t 46) (.seq (.reg [⟨some 47, none, .mv (.t 6)⟩, ⟨some 48, none, .mv (.t 8)⟩, ⟨some 49, none, .bin .eql (.t 47) (.t 48)⟩, ⟨some 50, none, .mv (.t 49)⟩, ⟨some 51, some (50, true), .mv (.t 7)⟩, ⟨some 52, some (50, true), .mv (.t 9)⟩, ⟨some 53, some (50, true), .bin .eql (.t 51) (.t 52)⟩, ⟨some 54, none, .pick (.t 50) (.t 53) (.c (.bool false))⟩, ⟨some 2, none, .mv (.t 54)⟩]) .ret) .skip)) (.seq (.reg [⟨some 55, none, .mv (.t 3)⟩, ⟨some 56, none, .call fn_laws_raised [.c (.int .i64 2), .t 55]⟩, ⟨some 10, none, .mv (.t 56)⟩]) (.seq (.reg [⟨some 57, none, .mv (.t 10)⟩, ⟨some 58, none, .mv (.t 7)⟩, ⟨some 59, none, .bin .sub (.t 57) (.t 58)⟩, ⟨some 11, none, .mv (.t 59)⟩]) (.seq (.seq (.reg [⟨some 60, none, .mv (.t 6)⟩, ⟨some 61, none, .bin .eql (.t 60) (.c (.int .i64 0))⟩]) (.cond (.t 61) (.reg [⟨some 11, none, .mv (.c (.int .i64 0))⟩]) .skip)) (.seq (.reg [⟨some 62, none, .mv (.t 11)⟩, ⟨some 63, none, .mv (.t 3)⟩, ⟨some 64, none, .mv (.t 6)⟩, ⟨some 65, none, .call fn_laws_choose [.t 63, .t 64]⟩, ⟨some 66, none, .bin .mul (.c (.int .i64 2)) (.t 65)⟩, ⟨some 67, none, .bin .add (.t 62) (.t 66)⟩, ⟨some 11, none, .mv (.t 67)⟩]) (.seq (.reg [⟨some 68, none, .mv (.t 6)⟩, ⟨some 69, none, .bin .eql (.t 68) (.c (.int .i64 0))⟩, ⟨some 70, none, .mv (.t 69)⟩, ⟨some 71, some (70, false), .mv (.t 10)⟩, ⟨some 72, some (70, false), .mv (.t 7)⟩, ⟨some 73, some (70, false), .bin .sub (.t 71) (.t 72)⟩, ⟨some 74, some (70, false), .mv (.t 5)⟩, ⟨some 75, some (70, false), .bin .mul (.t 73) (.t 74)⟩, ⟨some 76, some (70, false), .mv (.t 4)⟩, ⟨some 77, some (70, false), .mv (.t 10)⟩, ⟨some 78, some (70, false), .bin .mul (.t 76) (.t 77)⟩, ⟨some 79, some (70, false), .bin .leq (.t 75) (.t 78)⟩, ⟨some 80, none, .pick (.t 70) (.c (.bool true)) (.t 79)⟩, ⟨some 81, none, .mv (.t 80)⟩, ⟨some 82, some (81, true), .mv (.t 6)⟩, ⟨some 83, some (81, true), .bin .mul (.c (.int .i64 2)) (.t 82)⟩, ⟨some 84, some (81, true), .mv (.t 3)⟩, ⟨some 85, some (81, true), .bin .leq (.t 83) (.t 84)⟩, ⟨some 86, none, .pick (.t 81) (.t 85) (.c (.bool false))⟩, ⟨some 87, none, .mv (.t 86)⟩, ⟨some 88, some (87, true), .mv (.t 6)⟩, ⟨some 89, some (87, true), .bin .mul (.c (.int .i64 2)) (.t 88)⟩, ⟨some 90, some (87, true), .bin .add (.t 89) (.c (.int .i64 2))⟩, ⟨some 91, some (87, true), .mv (.t 3)⟩, ⟨some 92, some (87, true), .bin .gtr (.t 90) (.t 91)⟩, ⟨some 93, some (87, true), .mv (.t 92)⟩, ⟨some 94, some (93, false), .mv (.t 11)⟩, ⟨some 95, some (93, false), .mv (.t 5)⟩, ⟨some 96, some (93, false), .bin .mul (.t 94) (.t 95)⟩, ⟨some 97, some (93, false), .mv (.t 4)⟩, ⟨some 98, some (93, false), .mv (.t 10)⟩, ⟨some 99, some (93, false), .bin .mul (.t 97) (.t 98)⟩, ⟨some 100, some (93, false), .bin .gtr (.t 96) (.t 99)⟩, ⟨some 101, some (87, true), .pick (.t 93) (.c (.bool true)) (.t 100)⟩, ⟨some 102, none, .pick (.t 87) (.t 101) (.c (.bool false))⟩, ⟨some 2, none, .mv (.t 102)⟩]) .ret))))))))))
theorem code_laws_FnMiddlePlaces : HasCode Tryd.prog fn_laws_FnMiddlePlaces mc_laws_FnMiddlePlaces [.t 2] 103 := ⟨mixed, Tryd.f7, _, Tryd.func7, rfl, by kernel_rfl, by kernel_rfl, rfl, by kernel_rfl⟩

def mc_laws_raised : MC :=
  .seq (.reg [⟨some 4, none, .mv (.c (.int .i64 0))⟩]) (.seq (.reg [⟨some 5, none, .mv (.c (.int .i64 1))⟩]) (.seq (.block 0 (.loop (.seq (.seq (.reg [⟨some 6, none, .mv (.t 1)⟩, ⟨some 7, none, .bin .gtr (.t 6) (.c (.int .i64 0))⟩]) (.cond (.t 7) .skip (.exit 0))) (.seq (.block 1 (.reg [⟨some 10, none, .mv (.t 5)⟩, ⟨some 11, none, .mv (.t 0)⟩, ⟨some 12, none, .bin .mul (.t 10) (.t 11)⟩, ⟨some 5, none, .mv (.t 12)⟩])) (.reg [⟨some 8, none, .mv (.t 1)⟩, ⟨some 9, none, .bin .sub (.t 8) (.c (.int .i64 1))⟩, ⟨some 1, none, .mv (.t 9)⟩]))))) (.seq (.reg [⟨some 13, none, .mv (.t 5)⟩, ⟨some 4, none, .mv (.t 13)⟩]) .ret)))
theorem code_laws_raised : HasCode Tryd.prog fn_laws_raised mc_laws_raised [.t 4] 14 := ⟨mixed, Tryd.f16, _, Tryd.func16, rfl, by kernel_rfl, by kernel_rfl, rfl, by kernel_rfl⟩

def mc_spec_DrawMiddlePlaces : MC :=
  .seq (.reg [⟨some 2, none, .mv (.c (.int .i64 0))⟩, ⟨some 3, none, .mv (.c (.int .i64 0))⟩, ⟨some 4, none, .mv (.c (.int .i64 0))⟩]) (.seq (.reg [⟨some 8, none, .mv (.t 0)⟩, ⟨some 9, none, .call fn_spec_newReader [.t 8]⟩, ⟨some 5, none, .mv (.t 9)⟩]) (.seq (.reg [⟨some 11, none, .mv (.t 5)⟩, ⟨some 12, none, .call fn_spec_aLevel [.t 11]⟩, ⟨some 10, none, .mv (.t 12)⟩, ⟨some 13, none, .ext (.t 10) 0⟩, ⟨some 14, none, .ext (.t 10) 1⟩, ⟨some 6, none, .mv (.t 13)⟩, ⟨some 7, none, .mv (.t 14)⟩]) (.seq (.reg [⟨some 15, none, .mv (.t 5)⟩, ⟨some 16, none, .bsl 9 1 [.int .i64 0] [(0, .c (.int .i64 6)), (1, .c (.int .i64 8)), (2, .c (.int .i64 10)), (3, .c (.int .i64 5)), (4, .c (.int .i64 4)), (5, .c (.int .i64 2)), (6, .c (.int .i64 1)), (7, .c (.int .i64 0)), (8, .c (.int .i64 11))]⟩, ⟨some 17, none, .call fn_spec_reader_one [.t 15, .t 16]⟩, ⟨some 18, none, .mv (.t 6)⟩, ⟨some 19, none, .mv (.t 7)⟩, ⟨some 2, none, .mv (.t 17)⟩, ⟨some 3, none, .mv (.t 18)⟩, ⟨some 4, none, .mv (.t 19)⟩]) .ret)))
theorem code_spec_DrawMiddlePlaces : HasCode Tryd.prog fn_spec_DrawMiddlePlaces mc_spec_DrawMiddlePlaces [.t 2, .t 3, .t 4] 20 := ⟨mixed, Tryd.f27, _, Tryd.func27, rfl, by kernel_rfl, by kernel_rfl, rfl, by kernel_rfl⟩

def mc_impl_MiddlePlaces : MC :=
  .seq (.reg [⟨some 6, none, .mv (.c (.int .i64 0))⟩, ⟨some 7, none, .mv (.c (.int .i64 0))⟩]) (.seq (.reg [⟨some 14, none, .mv (.t 1)⟩, ⟨some 15, none, .mv (.t 2)⟩, ⟨some 16, none, .bld [.int .i64 0, .int .i64 0] [(0, 1, .t 14), (1, 1, .t 15)]⟩, ⟨some 8, none, .new [.int .i64 0, .int .i64 0]⟩, ⟨none, none, .st (.t 8) (.t 16) 2⟩]) (.seq (.seq (.reg [⟨some 17, none, .mv (.t 0)⟩, ⟨some 18, none, .bin .lss (.t 17) (.c (.int .i64 1))⟩, ⟨some 19, none, .mv (.t 18)⟩, ⟨some 20, some (19, false), .mv (.t 0)⟩, ⟨some 21, some (19, false), .bin .gtr (.t 20) (.c (.int .i64 10))⟩, ⟨some 22, none, .pick (.t 19) (.c (.bool true)) (.t 21)⟩, ⟨some 23, none, .mv (.t 22)⟩, ⟨some 24, some (23, false), .ld (.t 8) 2 true⟩, ⟨some 25, some (23, false), .call fn_impl_part_valid [.t 24]⟩, ⟨some 26, some (23, false), .un .not (.t 25)⟩, ⟨some 27, none, .pick (.t 23) (.c (.bool true)) (.t 26)⟩]) (.cond (.t 27) (.seq (.reg [⟨some 6, none, .mv (.c (.int .i64 (-1)))⟩, ⟨some 7, none, .mv (.c (.int .i64 (-1)))⟩]) .ret) .skip)) (.seq (.reg [⟨some 28, none, .mv (.t 0)⟩, ⟨some 29, none, .call fn_impl_power [.c (.int .i64 2), .t 28]⟩, ⟨some 9, none, .mv (.t 29)⟩]) (.seq (.reg [⟨some 30, none, .mv (.t 9)⟩, ⟨some 10, none, .mv (.c (.int .i64 0))⟩, ⟨some 11, none, .mv (.t 30)⟩]) (.seq (.seq (.reg [⟨some 31, none, .mv (.t 0)⟩, ⟨some 32, none, .bin .quo (.t 31) (.c (.int .i64 2))⟩, ⟨some 33, none, .mv (.c (.int .i64 0))⟩]) (.block 0 (.loop (.seq (.reg [⟨some 34, none, .bin .lss (.t 33) (.t 32)⟩]) (.seq (.cond (.t 34) .skip (.exit 0)) (.seq (.block 1 (.seq (.reg [⟨some 35, none, .mv (.t 33)⟩, ⟨some 12, none, .mv (.t 35)⟩]) (.seq (.reg [⟨some 36, none, .mv (.t 11)⟩, ⟨some 37, none, .mv (.t 0)⟩, ⟨some 38, none, .mv (.t 12)⟩, ⟨some 39, none, .arra (.c (.gl gl_impl_setCounts 0)) (.t 37) 11 11⟩, ⟨some 40, none, .arra (.t 39) (.t 38) 11 1⟩, ⟨some 41, none, .ld (.t 40) 1 false⟩, ⟨some 42, none, .bin .mul (.c (.int .i64 2)) (.t 41)⟩, ⟨some 43, none, .bin .sub (.t 36) (.t 42)⟩, ⟨some 13, none, .mv (.t 43)⟩]) (.seq (.seq (.reg [⟨some 44, none, .ld (.t 8) 2 true⟩, ⟨some 45, none, .mv (.t 9)⟩, ⟨some 46, none, .mv (.t 13)⟩, ⟨some 47, none, .bin .sub (.t 45) (.t 46)⟩, ⟨some 48, none, .mv (.t 9)⟩, ⟨some 49, none, .call fn_impl_part_holds [.t 44, .t 47, .t 48]⟩, ⟨some 50, none, .un .not (.t 49)⟩]) (.cond (.t 50) (.exit 0) .skip)) (.reg [⟨some 51, none, .mv (.t 12)⟩, ⟨some 52, none, .bin .add (.t 51) (.c (.int .i64 1))⟩, ⟨some 53, none, .mv (.t 13)⟩, ⟨some 10, none, .mv (.t 52)⟩, ⟨some 11, none, .mv (.t 53)⟩]))))) (.reg [⟨some 54, none, .bin .add (.t 33) (.c (.int .i64 1))⟩, ⟨some 33, none, .mv (.t 54)⟩]))))))) (.seq (.reg [⟨some 55, none, .mv (.t 10)⟩, ⟨some 56, none, .mv (.t 11)⟩, ⟨some 6, none, .mv (.t 55)⟩, ⟨some 7, none, .mv (.t 56)⟩]) .ret))))))
theorem code_impl_MiddlePlaces : HasCode Tryd.prog fn_impl_MiddlePlaces mc_impl_MiddlePlaces [.t 6, .t 7] 57 := ⟨mixed, Tryd.f28, _, Tryd.func28, rfl, by kernel_rfl, by kernel_rfl, rfl, by kernel_rfl⟩

def mc_spec_MiddlePlaces : MC :=
  .seq (.reg [⟨some 6, none, .mv (.c (.int .i64 0))⟩, ⟨some 7, none, .mv (.c (.int .i64 0))⟩]) (.seq (.seq (.reg [⟨some 12, none, .mv (.t 0)⟩, ⟨some 13, none, .call fn_spec_inRange [.t 12, .c (.int .i64 1), .c (.int .i64 10)]⟩, ⟨some 14, none, .un .not (.t 13)⟩, ⟨some 15, none, .mv (.t 14)⟩, ⟨some 16, some (15, false), .mv (.t 1)⟩, ⟨some 17, some (15, false), .mv (.t 2)⟩, ⟨some 18, some (15, false), .call fn_spec_validLevel [.t 16, .t 17]⟩, ⟨some 19, some (15, false), .un .not (.t 18)⟩, ⟨some 20, none, .pick (.t 15) (.c (.bool true)) (.t 19)⟩]) (.cond (.t 20) (.seq (.reg [⟨some 6, none, .mv (.c (.int .i64 (-1)))⟩, ⟨some 7, none, .mv (.c (.int .i64 (-1)))⟩]) .ret) .skip)) (.seq (.reg [⟨some 8, none, .mv (.c (.int .i64 0))⟩]) (.seq (.reg [⟨some 21, none, .mv (.t 0)⟩, ⟨some 22, none, .call fn_spec_power [.t 21]⟩, ⟨some 9, none, .mv (.t 22)⟩]) (.seq (.reg [⟨some 10, none, .mv (.c (.int .i64 0))⟩]) (.seq (.seq (.reg [⟨some 11, none, .mv (.c (.int .i64 1))⟩]) (.block 0 (.loop (.seq (.seq (.reg [⟨some 23, none, .mv (.t 11)⟩, ⟨some 24, none, .bin .mul (.c (.int .i64 2)) (.t 23)⟩, ⟨some 25, none, .mv (.t 0)⟩, ⟨some 26, none, .bin .leq (.t 24) (.t 25)⟩]) (.cond (.t 26) .skip (.exit 0))) (.seq (.block 1 (.seq (.reg [⟨some 29, none, .mv (.t 10)⟩, ⟨some 30, none, .mv (.t 0)⟩, ⟨some 31, none, .mv (.t 11)⟩, ⟨some 32, none, .bin .sub (.t 31) (.c (.int .i64 1))⟩, ⟨some 33, none, .call fn_spec_choose [.t 30, .t 32]⟩, ⟨some 34, none, .bin .add (.t 29) (.t 33)⟩, ⟨some 10, none, .mv (.t 34)⟩]) (.seq (.reg [⟨some 35, none, .mv (.t 10)⟩, ⟨some 36, none, .bin .mul (.c (.int .i64 2)) (.t 35)⟩, ⟨some 37, none, .mv (.t 2)⟩, ⟨some 38, none, .bin .mul (.t 36) (.t 37)⟩, ⟨some 39, none, .mv (.t 1)⟩, ⟨some 40, none, .mv (.t 0)⟩, ⟨some 41, none, .call fn_spec_power [.t 40]⟩, ⟨some 42, none, .bin .mul (.t 39) (.t 41)⟩, ⟨some 43, none, .bin .leq (.t 38) (.t 42)⟩]) (.cond (.t 43) (.seq (.reg [⟨some 44, none, .mv (.t 11)⟩, ⟨some 8, none, .mv (.t 44)⟩]) (.reg [⟨some 45, none, .mv (.t 0)⟩, ⟨some 46, none, .call fn_spec_power [.t 45]⟩, ⟨some 47, none, .mv (.t 10)⟩, ⟨some 48, none, .bin .mul (.c (.int .i64 2)) (.t 47)⟩, ⟨some 49, none, .bin .sub (.t 46) (.t 48)⟩, ⟨some 9, none, .mv (.t 49)⟩])) .skip)))) (.reg [⟨some 27, none, .mv (.t 11)⟩, ⟨some 28, none, .bin .add (.t 27) (.c (.int .i64 1))⟩, ⟨some 11, none, .mv (.t 28)⟩])))))) (.seq (.reg [⟨some 50, none, .mv (.t 8)⟩, ⟨some 51, none, .mv (.t 9)⟩, ⟨some 6, none, .mv (.t 50)⟩, ⟨some 7, none, .mv (.t 51)⟩]) .ret))))))
theorem code_spec_MiddlePlaces : HasCode Tryd.prog fn_spec_MiddlePlaces mc_spec_MiddlePlaces [.t 6, .t 7] 52 := ⟨mixed, Tryd.f29, _, Tryd.func29, rfl, by kernel_rfl, by kernel_rfl, rfl, by kernel_rfl⟩

def mc_laws_choose : MC :=
  .seq (.reg [⟨some 4, none, .mv (.c (.int .i64 0))⟩]) (.seq (.reg [⟨some 5, none, .mv (.c (.int .i64 1))⟩]) (.seq (.seq (.reg [⟨some 6, none, .mv (.c (.int .i64 0))⟩]) (.block 0 (.loop (.seq (.seq (.reg [⟨some 7, none, .mv (.t 6)⟩, ⟨some 8, none, .mv (.t 1)⟩, ⟨some 9, none, .bin .lss (.t 7) (.t 8)⟩]) (.cond (.t 9) .skip (.exit 0))) (.seq (.block 1 (.reg [⟨some 12, none, .mv (.t 5)⟩, ⟨some 13, none, .mv (.t 0)⟩, ⟨some 14, none, .mv (.t 6)⟩, ⟨some 15, none, .bin .sub (.t 13) (.t 14)⟩, ⟨some 16, none, .bin .mul (.t 12) (.t 15)⟩, ⟨some 17, none, .mv (.t 6)⟩, ⟨some 18, none, .bin .add (.t 17) (.c (.int .i64 1))⟩, ⟨some 19, none, .bin .quo (.t 16) (.t 18)⟩, ⟨some 5, none, .mv (.t 19)⟩])) (.reg [⟨some 10, none, .mv (.t 6)⟩, ⟨some 11, none, .bin .add (.t 10) (.c (.int .i64 1))⟩, ⟨some 6, none, .mv (.t 11)⟩])))))) (.seq (.reg [⟨some 20, none, .mv (.t 5)⟩, ⟨some 4, none, .mv (.t 20)⟩]) .ret)))
theorem code_laws_choose : HasCode Tryd.prog fn_laws_choose mc_laws_choose [.t 4] 21 := ⟨mixed, Tryd.f30, _, Tryd.func30, rfl, by kernel_rfl, by kernel_rfl, rfl, by kernel_rfl⟩

def mc_spec_newReader : MC :=
  .seq (.reg [⟨some 2, none, .mv (.c .nilPtr)⟩]) (.seq (.seq (.reg [⟨some 3, none, .mv (.t 0)⟩, ⟨some 4, none, .len (.t 3)⟩, ⟨some 5, none, .bin .gtr (.t 4) (.c (.int .i64 2000))⟩]) (.cond (.t 5) (.reg [⟨some 6, none, .mv (.t 0)⟩, ⟨some 7, none, .sl (.t 6) none (some (.c (.int .i64 2000))) none 1⟩, ⟨some 0, none, .mv (.t 7)⟩]) .skip)) (.seq (.reg [⟨some 8, none, .mv (.t 0)⟩, ⟨some 9, none, .bld [.nilSlice, .int .i64 0] [(0, 1, .t 8)]⟩, ⟨some 10, none, .box (.t 9)⟩, ⟨some 2, none, .mv (.t 10)⟩]) .ret))
theorem code_spec_newReader : HasCode Tryd.prog fn_spec_newReader mc_spec_newReader [.t 2] 11 := ⟨mixed, Tryd.f34, _, Tryd.func34, rfl, by kernel_rfl, by kernel_rfl, rfl, by kernel_rfl⟩

def mc_spec_reader_one : MC :=
  .seq (.reg [⟨some 4, none, .mv (.c (.int .i64 0))⟩]) (.seq (.reg [⟨some 5, none, .mv (.t 1)⟩, ⟨some 6, none, .mv (.t 0)⟩, ⟨some 7, none, .mv (.t 1)⟩, ⟨some 8, none, .len (.t 7)⟩, ⟨some 9, none, .call fn_spec_reader_pick [.t 6, .t 8]⟩, ⟨some 10, none, .ixa (.t 5) (.t 9) 1⟩, ⟨some 11, none, .ld (.t 10) 1 false⟩, ⟨some 4, none, .mv (.t 11)⟩]) .ret)
theorem code_spec_reader_one : HasCode Tryd.prog fn_spec_reader_one mc_spec_reader_one [.t 4] 12 := ⟨mixed, Tryd.f35, _, Tryd.func35, rfl, by kernel_rfl, by kernel_rfl, rfl, by kernel_rfl⟩

def mc_spec_reader_pick : MC :=
  .seq (.reg [⟨some 4, none, .mv (.c (.int .i64 0))⟩]) (.seq (.reg [⟨some 7, none, .mv (.t 0)⟩, ⟨some 8, none, .mv (.t 0)⟩, ⟨some 9, none, .nilck (.t 8)⟩, ⟨some 10, none, .fa (.t 9) 1⟩, ⟨some 11, none, .ld (.t 10) 1 false⟩, ⟨some 12, none, .bin .add (.t 11) (.c (.int .i64 1))⟩, ⟨some 13, none, .nilck (.t 7)⟩, ⟨some 14, none, .fa (.t 13) 1⟩, ⟨none, none, .st (.t 14) (.t 12) 1⟩]) (.seq (.seq (.reg [⟨some 15, none, .mv (.t 1)⟩, ⟨some 16, none, .bin .lss (.t 15) (.c (.int .i64 1))⟩, ⟨some 17, none, .mv (.t 16)⟩, ⟨some 18, some (17, false), .mv (.t 0)⟩, ⟨some 19, some (17, false), .nilck (.t 18)⟩, ⟨some 20, some (17, false), .fa (.t 19) 0⟩, ⟨some 21, some (17, false), .ld (.t 20) 1 false⟩, ⟨some 22, some (17, false), .len (.t 21)⟩, ⟨some 23, some (17, false), .bin .eql (.t 22) (.c (.int .i64 0))⟩, ⟨some 24, none, .pick (.t 17) (.c (.bool true)) (.t 23)⟩]) (.cond (.t 24) (.seq (.reg [⟨some 4, none, .mv (.c (.int .i64 0))⟩]) .ret) .skip)) (.seq (.reg [⟨some 25, none, .mv (.t 0)⟩, ⟨some 26, none, .nilck (.t 25)⟩, ⟨some 27, none, .fa (.t 26) 1⟩, ⟨some 28, none, .ld (.t 27) 1 false⟩, ⟨some 29, none, .bin .sub (.t 28) (.c (.int .i64 1))⟩, ⟨some 5, none, .mv (.t 29)⟩]) (.seq (.seq (.reg [⟨some 30, none, .mv (.t 5)⟩, ⟨some 31, none, .mv (.t 0)⟩, ⟨some 32, none, .nilck (.t 31)⟩, ⟨some 33, none, .fa (.t 32) 0⟩, ⟨some 34, none, .ld (.t 33) 1 false⟩, ⟨some 35, none, .len (.t 34)⟩, ⟨some 36, none, .bin .lss (.t 30) (.t 35)⟩]) (.cond (.t 36) (.seq (.reg [⟨some 37, none, .mv (.t 0)⟩, ⟨some 38, none, .nilck (.t 37)⟩, ⟨some 39, none, .fa (.t 38) 0⟩, ⟨some 40, none, .ld (.t 39) 1 false⟩, ⟨some 41, none, .mv (.t 5)⟩, ⟨some 42, none, .ixa (.t 40) (.t 41) 1⟩, ⟨some 43, none, .ld (.t 42) 1 false⟩, ⟨some 44, none, .conv .i64 (.t 43)⟩, ⟨some 45, none, .mv (.t 1)⟩, ⟨some 46, none, .bin .rem (.t 44) (.t 45)⟩, ⟨some 4, none, .mv (.t 46)⟩]) .ret) .skip)) (.seq (.drq [⟨some 47, none, .mv (.t 0)⟩, ⟨some 48, none, .nilck (.t 47)⟩, ⟨some 49, none, .fa (.t 48) 0⟩, ⟨some 50, none, .ld (.t 49) 1 false⟩, ⟨some 51, none, .mv (.t 5)⟩, ⟨some 52, none, .mv (.t 0)⟩, ⟨some 53, none, .nilck (.t 52)⟩, ⟨some 54, none, .fa (.t 53) 0⟩, ⟨some 55, none, .ld (.t 54) 1 false⟩, ⟨some 56, none, .len (.t 55)⟩, ⟨some 57, none, .bin .rem (.t 51) (.t 56)⟩, ⟨some 58, none, .ixa (.t 50) (.t 57) 1⟩, ⟨some 59, none, .ld (.t 58) 1 false⟩, ⟨some 60, none, .conv .i64 (.t 59)⟩, ⟨some 61, none, .bin .mul (.t 60) (.c (.int .i64 131))⟩, ⟨some 62, none, .mv (.t 0)⟩, ⟨some 63, none, .nilck (.t 62)⟩, ⟨some 64, none, .fa (.t 63) 0⟩, ⟨some 65, none, .ld (.t 64) 1 false⟩, ⟨some 66, none, .mv (.t 5)⟩, ⟨some 67, none, .bin .mul (.t 66) (.c (.int .i64 7))⟩, ⟨some 68, none, .bin .add (.t 67) (.c (.int .i64 3))⟩, ⟨some 69, none, .mv (.t 0)⟩, ⟨some 70, none, .nilck (.t 69)⟩, ⟨some 71, none, .fa (.t 70) 0⟩, ⟨some 72, none, .ld (.t 71) 1 false⟩, ⟨some 73, none, .len (.t 72)⟩, ⟨some 74, none, .bin .rem (.t 68) (.t 73)⟩, ⟨some 75, none, .ixa (.t 65) (.t 74) 1⟩, ⟨some 76, none, .ld (.t 75) 1 false⟩, ⟨some 77, none, .conv .i64 (.t 76)⟩, ⟨some 78, none, .bin .mul (.t 77) (.c (.int .i64 1117))⟩, ⟨some 79, none, .bin .add (.t 61) (.t 78)⟩, ⟨some 80, none, .mv (.t 5)⟩, ⟨some 81, none, .bin .mul (.t 80) (.c (.int .i64 29))⟩, ⟨some 82, none, .bin .add (.t 79) (.t 81)⟩, ⟨some 83, none, .mv (.t 5)⟩, ⟨some 84, none, .mv (.t 0)⟩, ⟨some 85, none, .nilck (.t 84)⟩, ⟨some 86, none, .fa (.t 85) 0⟩, ⟨some 87, none, .ld (.t 86) 1 false⟩, ⟨some 88, none, .len (.t 87)⟩, ⟨some 89, none, .bin .quo (.t 83) (.t 88)⟩, ⟨some 90, none, .bin .mul (.t 89) (.c (.int .i64 53))⟩, ⟨some 91, none, .bin .add (.t 82) (.t 90)⟩, ⟨some 6, none, .mv (.t 91)⟩]) (.seq (.reg [⟨some 92, none, .mv (.t 6)⟩, ⟨some 93, none, .mv (.t 6)⟩, ⟨some 94, none, .bin .quo (.t 93) (.c (.int .i64 64))⟩, ⟨some 95, none, .bin .xor (.t 92) (.t 94)⟩, ⟨some 6, none, .mv (.t 95)⟩]) (.seq (.reg [⟨some 96, none, .mv (.t 6)⟩, ⟨some 97, none, .mv (.t 1)⟩, ⟨some 98, none, .bin .rem (.t 96) (.t 97)⟩, ⟨some 4, none, .mv (.t 98)⟩]) .ret)))))))
theorem code_spec_reader_pick : HasCode Tryd.prog fn_spec_reader_pick mc_spec_reader_pick [.t 4] 99 := ⟨mixed, Tryd.f36, _, Tryd.func36, rfl, by kernel_rfl, by kernel_rfl, rfl, by kernel_rfl⟩

def mc_spec_aLevel : MC :=
  .seq (.reg [⟨some 2, none, .mv (.c (.int .i64 0))⟩, ⟨some 3, none, .mv (.c (.int .i64 0))⟩]) (.seq (.reg [⟨some 5, none, .mv (.t 0)⟩, ⟨some 6, none, .bsl 7 1 [.int .i64 0] [(0, .c (.int .i64 100)), (1, .c (.int .i64 20)), (2, .c (.int .i64 10)), (3, .c (.int .i64 2)), (4, .c (.int .i64 1)), (5, .c (.int .i64 0)), (6, .c (.int .i64 101))]⟩, ⟨some 7, none, .call fn_spec_reader_one [.t 5, .t 6]⟩, ⟨some 4, none, .mv (.t 7)⟩]) (.seq (.reg [⟨some 8, none, .mv (.t 0)⟩, ⟨some 9, none, .mv (.t 0)⟩, ⟨some 10, none, .mv (.t 4)⟩, ⟨some 11, none, .mnmx true (.t 10) [.c (.int .i64 0)]⟩, ⟨some 12, none, .bin .add (.t 11) (.c (.int .i64 1))⟩, ⟨some 13, none, .call fn_spec_reader_pick [.t 9, .t 12]⟩, ⟨some 14, none, .mv (.t 4)⟩, ⟨some 15, none, .mv (.t 4)⟩, ⟨some 16, none, .bin .add (.t 15) (.c (.int .i64 1))⟩, ⟨some 17, none, .bsl 7 1 [.int .i64 0] [(0, .c (.int .i64 5)), (1, .c (.int .i64 1)), (2, .c (.int .i64 10)), (3, .c (.int .i64 0)), (4, .t 13), (5, .t 14), (6, .t 16)]⟩, ⟨some 18, none, .call fn_spec_reader_one [.t 8, .t 17]⟩, ⟨some 19, none, .mv (.t 4)⟩, ⟨some 2, none, .mv (.t 18)⟩, ⟨some 3, none, .mv (.t 19)⟩]) .ret))
theorem code_spec_aLevel : HasCode Tryd.prog fn_spec_aLevel mc_spec_aLevel [.t 2, .t 3] 20 := ⟨mixed, Tryd.f43, _, Tryd.func43, rfl, by kernel_rfl, by kernel_rfl, rfl, by kernel_rfl⟩

def mc_impl_part_holds : MC :=
  .seq (.reg [⟨some 3, none, .box (.t 0)⟩, ⟨some 6, none, .mv (.c (.bool false))⟩]) (.seq (.reg [⟨some 7, none, .mv (.t 1)⟩, ⟨some 8, none, .fa (.t 3) 1⟩, ⟨some 9, none, .ld (.t 8) 1 false⟩, ⟨some 10, none, .bin .mul (.t 7) (.t 9)⟩, ⟨some 11, none, .fa (.t 3) 0⟩, ⟨some 12, none, .ld (.t 11) 1 false⟩, ⟨some 13, none, .mv (.t 2)⟩, ⟨some 14, none, .bin .mul (.t 12) (.t 13)⟩, ⟨some 15, none, .bin .leq (.t 10) (.t 14)⟩, ⟨some 6, none, .mv (.t 15)⟩]) .ret)
theorem code_impl_part_holds : HasCode Tryd.prog fn_impl_part_holds mc_impl_part_holds [.t 6] 16 := ⟨mixed, Tryd.f45, _, Tryd.func45, rfl, by kernel_rfl, by kernel_rfl, rfl, by kernel_rfl⟩

def mc_spec_inRange : MC :=
  .seq (.reg [⟨some 6, none, .mv (.c (.bool false))⟩]) (.seq (.reg [⟨some 7, none, .mv (.t 1)⟩, ⟨some 8, none, .mv (.t 0)⟩, ⟨some 9, none, .bin .leq (.t 7) (.t 8)⟩, ⟨some 10, none, .mv (.t 9)⟩, ⟨some 11, some (10, true), .mv (.t 0)⟩, ⟨some 12, some (10, true), .mv (.t 2)⟩, ⟨some 13, some (10, true), .bin .leq (.t 11) (.t 12)⟩, ⟨some 14, none, .pick (.t 10) (.t 13) (.c (.bool false))⟩, ⟨some 6, none, .mv (.t 14)⟩]) .ret)
theorem code_spec_inRange : HasCode Tryd.prog fn_spec_inRange mc_spec_inRange [.t 6] 15 := ⟨mixed, Tryd.f46, _, Tryd.func46, rfl, by kernel_rfl, by kernel_rfl, rfl, by kernel_rfl⟩

def mc_spec_validLevel : MC :=
  .seq (.reg [⟨some 4, none, .mv (.c (.bool false))⟩]) (.seq (.reg [⟨some 5, none, .mv (.t 1)⟩, ⟨some 6, none, .call fn_spec_inRange [.t 5, .c (.int .i64 1), .c (.int .i64 100)]⟩, ⟨some 7, none, .mv (.t 6)⟩, ⟨some 8, some (7, true), .mv (.t 0)⟩, ⟨some 9, some (7, true), .mv (.t 1)⟩, ⟨some 10, some (7, true), .call fn_spec_inRange [.t 8, .c (.int .i64 0), .t 9]⟩, ⟨some 11, none, .pick (.t 7) (.t 10) (.c (.bool false))⟩, ⟨some 4, none, .mv (.t 11)⟩]) .ret)
theorem code_spec_validLevel : HasCode Tryd.prog fn_spec_validLevel mc_spec_validLevel [.t 4] 12 := ⟨mixed, Tryd.f47, _, Tryd.func47, rfl, by kernel_rfl, by kernel_rfl, rfl, by kernel_rfl⟩

def mc_impl_part_valid : MC :=
  .seq (.reg [⟨some 1, none, .box (.t 0)⟩, ⟨some 2, none, .mv (.c (.bool false))⟩]) (.seq (.reg [⟨some 3, none, .fa (.t 1) 1⟩, ⟨some 4, none, .ld (.t 3) 1 false⟩, ⟨some 5, none, .bin .geq (.t 4) (.c (.int .i64 1))⟩, ⟨some 6, none, .mv (.t 5)⟩, ⟨some 7, some (6, true), .fa (.t 1) 1⟩, ⟨some 8, some (6, true), .ld (.t 7) 1 false⟩, ⟨some 9, some (6, true), .bin .leq (.t 8) (.c (.int .i64 100))⟩, ⟨some 10, none, .pick (.t 6) (.t 9) (.c (.bool false))⟩, ⟨some 11, none, .mv (.t 10)⟩, ⟨some 12, some (11, true), .fa (.t 1) 0⟩, ⟨some 13, some (11, true), .ld (.t 12) 1 false⟩, ⟨some 14, some (11, true), .bin .geq (.t 13) (.c (.int .i64 0))⟩, ⟨some 15, none, .pick (.t 11) (.t 14) (.c (.bool false))⟩, ⟨some 16, none, .mv (.t 15)⟩, ⟨some 17, some (16, true), .fa (.t 1) 0⟩, ⟨some 18, some (16, true), .ld (.t 17) 1 false⟩, ⟨some 19, some (16, true), .fa (.t 1) 1⟩, ⟨some 20, some (16, true), .ld (.t 19) 1 false⟩, ⟨some 21, some (16, true), .bin .leq (.t 18) (.t 20)⟩, ⟨some 22, none, .pick (.t 16) (.t 21) (.c (.bool false))⟩, ⟨some 2, none, .mv (.t 22)⟩]) .ret)
theorem code_impl_part_valid : HasCode Tryd.prog fn_impl_part_valid mc_impl_part_valid [.t 2] 23 := ⟨mixed, Tryd.f55, _, Tryd.func55, rfl, by kernel_rfl, by kernel_rfl, rfl, by kernel_rfl⟩

def mc_impl_power : MC :=
  .seq (.reg [⟨some 4, none, .mv (.c (.int .i64 0))⟩]) (.seq (.reg [⟨some 5, none, .mv (.c (.int .i64 1))⟩]) (.seq (.seq (.reg [⟨some 6, none, .mv (.t 1)⟩, ⟨some 7, none, .mv (.c (.int .i64 0))⟩]) (.block 0 (.loop (.seq (.reg [⟨some 8, none, .bin .lss (.t 7) (.t 6)⟩]) (.seq (.cond (.t 8) .skip (.exit 0)) (.seq (.block 1 (.reg [⟨some 9, none, .mv (.t 5)⟩, ⟨some 10, none, .mv (.t 0)⟩, ⟨some 11, none, .bin .mul (.t 9) (.t 10)⟩, ⟨some 5, none, .mv (.t 11)⟩])) (.reg [⟨some 12, none, .bin .add (.t 7) (.c (.int .i64 1))⟩, ⟨some 7, none, .mv (.t 12)⟩]))))))) (.seq (.reg [⟨some 13, none, .mv (.t 5)⟩, ⟨some 4, none, .mv (.t 13)⟩]) .ret)))
theorem code_impl_power : HasCode Tryd.prog fn_impl_power mc_impl_power [.t 4] 14 := ⟨mixed, Tryd.f56, _, Tryd.func56, rfl, by kernel_rfl, by kernel_rfl, rfl, by kernel_rfl⟩

def mc_spec_power : MC :=
  .seq (.reg [⟨some 2, none, .mv (.c (.int .i64 0))⟩]) (.seq (.reg [⟨some 3, none, .mv (.c (.int .i64 1))⟩]) (.seq (.block 0 (.loop (.seq (.seq (.reg [⟨some 4, none, .mv (.t 0)⟩, ⟨some 5, none, .bin .gtr (.t 4) (.c (.int .i64 0))⟩]) (.cond (.t 5) .skip (.exit 0))) (.seq (.block 1 (.reg [⟨some 8, none, .mv (.t 3)⟩, ⟨some 9, none, .bin .mul (.c (.int .i64 2)) (.t 8)⟩, ⟨some 3, none, .mv (.t 9)⟩])) (.reg [⟨some 6, none, .mv (.t 0)⟩, ⟨some 7, none, .bin .sub (.t 6) (.c (.int .i64 1))⟩, ⟨some 0, none, .mv (.t 7)⟩]))))) (.seq (.reg [⟨some 10, none, .mv (.t 3)⟩, ⟨some 2, none, .mv (.t 10)⟩]) .ret)))
theorem code_spec_power : HasCode Tryd.prog fn_spec_power mc_spec_power [.t 2] 11 := ⟨mixed, Tryd.f57, _, Tryd.func57, rfl, by kernel_rfl, by kernel_rfl, rfl, by kernel_rfl⟩

def mc_spec_choose : MC :=
  .seq (.reg [⟨some 4, none, .mv (.c (.int .i64 0))⟩]) (.seq (.seq (.reg [⟨some 7, none, .mv (.t 1)⟩, ⟨some 8, none, .bin .lss (.t 7) (.c (.int .i64 0))⟩, ⟨some 9, none, .mv (.t 8)⟩, ⟨some 10, some (9, false), .mv (.t 1)⟩, ⟨some 11, some (9, false), .mv (.t 0)⟩, ⟨some 12, some (9, false), .bin .gtr (.t 10) (.t 11)⟩, ⟨some 13, none, .pick (.t 9) (.c (.bool true)) (.t 12)⟩]) (.cond (.t 13) (.seq (.reg [⟨some 4, none, .mv (.c (.int .i64 0))⟩]) .ret) .skip)) (.seq (.reg [⟨some 5, none, .mv (.c (.int .i64 1))⟩]) (.seq (.seq (.reg [⟨some 6, none, .mv (.c (.int .i64 0))⟩]) (.block 0 (.loop (.seq (.seq (.reg [⟨some 14, none, .mv (.t 6)⟩, ⟨some 15, none, .mv (.t 1)⟩, ⟨some 16, none, .bin .lss (.t 14) (.t 15)⟩]) (.cond (.t 16) .skip (.exit 0))) (.seq (.block 1 (.reg [⟨some 19, none, .mv (.t 5)⟩, ⟨some 20, none, .mv (.t 0)⟩, ⟨some 21, none, .mv (.t 6)⟩, ⟨some 22, none, .bin .sub (.t 20) (.t 21)⟩, ⟨some 23, none, .bin .mul (.t 19) (.t 22)⟩, ⟨some 24, none, .mv (.t 6)⟩, ⟨some 25, none, .bin .add (.t 24) (.c (.int .i64 1))⟩, ⟨some 26, none, .bin .quo (.t 23) (.t 25)⟩, ⟨some 5, none, .mv (.t 26)⟩])) (.reg [⟨some 17, none, .mv (.t 6)⟩, ⟨some 18, none, .bin .add (.t 17) (.c (.int .i64 1))⟩, ⟨some 6, none, .mv (.t 18)⟩])))))) (.seq (.reg [⟨some 27, none, .mv (.t 5)⟩, ⟨some 4, none, .mv (.t 27)⟩]) .ret))))
theorem code_spec_choose : HasCode Tryd.prog fn_spec_choose mc_spec_choose [.t 4] 28 := ⟨mixed, Tryd.f58, _, Tryd.func58, rfl, by kernel_rfl, by kernel_rfl, rfl, by kernel_rfl⟩

end Go.Rx.Try
