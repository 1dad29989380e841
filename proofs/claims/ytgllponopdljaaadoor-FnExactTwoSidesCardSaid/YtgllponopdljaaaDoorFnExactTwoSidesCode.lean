/-
  The code of each function of the program, taken up. Made by a program.
-/
import Derived.Test.YtgllponopdljaaaDoorProg
import Derived.Test.YtgllponopdljaaaDoorRxI
import Derived.KernelRfl
namespace Go.Rx.Try
open Go.Proofs
set_option maxRecDepth 100000

abbrev fn_laws_FnTailChance : FuncId := 3
abbrev fn_laws_FnLowBound : FuncId := 4
abbrev fn_laws_FnHighBound : FuncId := 5
abbrev fn_laws_FnTwoSides : FuncId := 6
abbrev fn_laws_FnMiddlePlaces : FuncId := 7
abbrev fn_laws_FnExactTailChance : FuncId := 8
abbrev fn_laws_FnExactLowBound : FuncId := 9
abbrev fn_laws_FnExactHighBound : FuncId := 10
abbrev fn_laws_FnExactTwoSides : FuncId := 11
abbrev fn_laws_FnExactMiddlePlaces : FuncId := 12
abbrev fn_spec_DrawTailChance : FuncId := 13
abbrev fn_impl_TailChance : FuncId := 14
abbrev fn_spec_TailChance : FuncId := 15
abbrev fn_laws_raised : FuncId := 16
abbrev fn_spec_DrawLowBound : FuncId := 17
abbrev fn_impl_LowBound : FuncId := 18
abbrev fn_spec_LowBound : FuncId := 19
abbrev fn_spec_DrawHighBound : FuncId := 20
abbrev fn_impl_HighBound : FuncId := 21
abbrev fn_spec_HighBound : FuncId := 22
abbrev fn_spec_DrawTwoSides : FuncId := 23
abbrev fn_impl_TwoSides : FuncId := 24
abbrev fn_laws_equalInts : FuncId := 25
abbrev fn_spec_TwoSides : FuncId := 26
abbrev fn_spec_DrawMiddlePlaces : FuncId := 27
abbrev fn_impl_MiddlePlaces : FuncId := 28
abbrev fn_spec_MiddlePlaces : FuncId := 29
abbrev fn_laws_choose : FuncId := 30
abbrev fn_laws_eqIntS : FuncId := 31
abbrev fn_laws_markIntS : FuncId := 32
abbrev fn_laws_heldIntS : FuncId := 33
abbrev fn_spec_newReader : FuncId := 34
abbrev fn_spec_reader_one : FuncId := 35
abbrev fn_spec_reader_pick : FuncId := 36
abbrev fn_impl_tries_valid : FuncId := 37
abbrev fn_impl_tries_atLeast : FuncId := 38
abbrev fn_impl_tries_all : FuncId := 39
abbrev fn_spec_validTries : FuncId := 40
abbrev fn_spec_tail : FuncId := 41
abbrev fn_spec_raise : FuncId := 42
abbrev fn_spec_aLevel : FuncId := 43
abbrev fn_impl_validBound : FuncId := 44
abbrev fn_impl_part_holds : FuncId := 45
abbrev fn_spec_inRange : FuncId := 46
abbrev fn_spec_validLevel : FuncId := 47
abbrev fn_impl_tries_atMost : FuncId := 48
abbrev fn_impl_tries_waysOf : FuncId := 49
abbrev fn_impl_TwoSides_1 : FuncId := 50
abbrev fn_impl_tries_ways : FuncId := 51
abbrev fn_impl_TwoSides_2 : FuncId := 52
abbrev fn_impl_tries_gap : FuncId := 53
abbrev fn_spec_term : FuncId := 54
abbrev fn_impl_part_valid : FuncId := 55
abbrev fn_impl_power : FuncId := 56
abbrev fn_spec_power : FuncId := 57
abbrev fn_spec_choose : FuncId := 58
abbrev fn_impl_tries_atLeast_1 : FuncId := 59
abbrev fn_impl_tries_atMost_1 : FuncId := 60
abbrev fn_runtime_boundsError_Error : FuncId := 61
abbrev fn_runtime_boundsError_RuntimeError : FuncId := 62
abbrev fn_runtime_errorString_Error : FuncId := 63
abbrev fn_runtime_errorString_RuntimeError : FuncId := 64
abbrev fn_runtime_plainError_Error : FuncId := 65
abbrev fn_runtime_plainError_RuntimeError : FuncId := 66
abbrev fn_runtime_errorAddressString_Error : FuncId := 67
abbrev fn_runtime_errorAddressString_RuntimeError : FuncId := 68
abbrev fn_runtime_TypeAssertionError_Error : FuncId := 69
abbrev fn_runtime_TypeAssertionError_RuntimeError : FuncId := 70
abbrev fn_runtime_PanicNilError_Error : FuncId := 71
abbrev fn_runtime_PanicNilError_RuntimeError : FuncId := 72
abbrev fn_internal_abi_Type_Align : FuncId := 73
abbrev fn_internal_runtime_maps_unhashableTypeError_Error : FuncId := 74
abbrev fn_internal_runtime_maps_unhashableTypeError_RuntimeError : FuncId := 75
abbrev fn_internal_abi_Kind_String : FuncId := 76
abbrev fn_var_s_door_gosem_cut_vars_holds_initialisers_alone_see_the_manifest_s_row_cutvarsword_look_11_test_files_too : FuncId := 77
abbrev fn_var_s_door_impl_setCounts_is_laid_by_its_own_initialiser_plain_data_look_11 : FuncId := 78
abbrev fn_var_s_door_the_look_of_gosem_cut_vars_went_over_the_folder_that_the_caller_named_as_the_repository_s_root_look_11 : FuncId := 79
abbrev fn_gosem_cut_vars : FuncId := 80
abbrev gl_impl_setCounts : Nat := 0
theorem mixed : Tryd.prog.follows .mixedOrders = true := by kernel_rfl

def mc_laws_FnExactTwoSides : MC :=
  .seq (.reg [⟨some 8, none, .mv (.c (.bool false))⟩]) (.seq (.reg [⟨some 14, none, .mv (.t 0)⟩, ⟨some 15, none, .mv (.t 1)⟩, ⟨some 16, none, .mv (.t 2)⟩, ⟨some 17, none, .mv (.t 3)⟩, ⟨some 18, none, .call fn_spec_TwoSides [.t 14, .t 15, .t 16, .t 17]⟩, ⟨some 9, none, .mv (.t 18)⟩]) (.seq (.reg [⟨some 19, none, .mv (.t 0)⟩, ⟨some 20, none, .mv (.t 1)⟩, ⟨some 21, none, .mv (.t 2)⟩, ⟨some 22, none, .mv (.t 3)⟩, ⟨some 23, none, .call fn_impl_TwoSides [.t 19, .t 20, .t 21, .t 22]⟩, ⟨some 10, none, .mv (.t 23)⟩]) (.seq (.seq (.reg [⟨some 24, none, .mv (.t 10)⟩, ⟨some 25, none, .mv (.t 9)⟩, ⟨some 26, none, .call fn_laws_eqIntS [.t 24, .t 25]⟩, ⟨some 27, none, .un .not (.t 26)⟩]) (.cond (.t 27) (.seq (.reg [⟨some 8, none, .mv (.c (.bool false))⟩]) .ret) .skip)) (.seq (.reg [⟨some 11, none, .mv (.c (.int .i64 1))⟩]) (.seq (.reg [⟨some 28, none, .mv (.t 10)⟩, ⟨some 29, none, .mv (.t 11)⟩, ⟨some 30, none, .call fn_laws_markIntS [.t 28, .t 29]⟩, ⟨some 11, none, .mv (.t 30)⟩]) (.seq (.reg [⟨some 12, none, .mv (.c (.int .i64 1))⟩]) (.seq (.reg [⟨some 31, none, .mv (.t 10)⟩, ⟨some 32, none, .mv (.t 12)⟩, ⟨some 33, none, .call fn_laws_heldIntS [.t 31, .t 32]⟩, ⟨some 12, none, .mv (.t 33)⟩]) (.seq (.seq (.reg [⟨some 34, none, .mv (.t 12)⟩, ⟨some 35, none, .bin .lss (.t 34) (.c (.int .i64 0))⟩]) (.cond (.t 35) (.seq (.reg [⟨some 8, none, .mv (.c (.bool false))⟩]) .ret) .skip)) (.seq (.seq (.reg [⟨some 36, none, .mv (.t 12)⟩, ⟨some 37, none, .mv (.t 11)⟩, ⟨some 38, none, .bin .neq (.t 36) (.t 37)⟩]) (.cond (.t 38) (.seq (.reg [⟨some 8, none, .mv (.c (.bool false))⟩]) .ret) .skip)) (.seq (.reg [⟨some 39, none, .mv (.t 0)⟩, ⟨some 40, none, .mv (.t 1)⟩, ⟨some 41, none, .mv (.t 2)⟩, ⟨some 42, none, .mv (.t 3)⟩, ⟨some 43, none, .call fn_impl_TwoSides [.t 39, .t 40, .t 41, .t 42]⟩, ⟨some 13, none, .mv (.t 43)⟩]) (.seq (.seq (.reg [⟨some 44, none, .mv (.t 13)⟩, ⟨some 45, none, .mv (.t 9)⟩, ⟨some 46, none, .call fn_laws_eqIntS [.t 44, .t 45]⟩, ⟨some 47, none, .un .not (.t 46)⟩]) (.cond (.t 47) (.seq (.reg [⟨some 8, none, .mv (.c (.bool false))⟩]) .ret) .skip)) (.seq (.reg [⟨some 12, none, .mv (.c (.int .i64 1))⟩]) (.seq (.reg [⟨some 48, none, .mv (.t 10)⟩, ⟨some 49, none, .mv (.t 12)⟩, ⟨some 50, none, .call fn_laws_heldIntS [.t 48, .t 49]⟩, ⟨some 12, none, .mv (.t 50)⟩]) (.seq (.seq (.reg [⟨some 51, none, .mv (.t 12)⟩, ⟨some 52, none, .bin .lss (.t 51) (.c (.int .i64 0))⟩]) (.cond (.t 52) (.seq (.reg [⟨some 8, none, .mv (.c (.bool false))⟩]) .ret) .skip)) (.seq (.seq (.reg [⟨some 53, none, .mv (.t 12)⟩, ⟨some 54, none, .mv (.t 11)⟩, ⟨some 55, none, .bin .neq (.t 53) (.t 54)⟩]) (.cond (.t 55) (.seq (.reg [⟨some 8, none, .mv (.c (.bool false))⟩]) .ret) .skip)) (.seq (.reg [⟨some 8, none, .mv (.c (.bool true))⟩]) .ret))))))))))))))))
theorem code_laws_FnExactTwoSides : HasCode Tryd.prog fn_laws_FnExactTwoSides mc_laws_FnExactTwoSides [.t 8] 56 := ⟨mixed, Tryd.f11, _, Tryd.func11, rfl, by kernel_rfl, by kernel_rfl, rfl, by kernel_rfl⟩

def mc_impl_TwoSides : MC :=
  .seq (.reg [⟨some 5, none, .box (.t 1)⟩, ⟨some 8, none, .mv (.c .nilSlice)⟩]) (.seq (.reg [⟨some 10, none, .mv (.t 0)⟩, ⟨some 11, none, .mv (.t 2)⟩, ⟨some 12, none, .mv (.t 3)⟩, ⟨some 13, none, .bld [.int .i64 0, .int .i64 0, .int .i64 0] [(0, 1, .t 10), (1, 1, .t 11), (2, 1, .t 12)]⟩, ⟨some 9, none, .new [.int .i64 0, .int .i64 0, .int .i64 0]⟩, ⟨none, none, .st (.t 9) (.t 13) 3⟩]) (.seq (.seq (.reg [⟨some 14, none, .ld (.t 9) 3 true⟩, ⟨some 15, none, .call fn_impl_tries_valid [.t 14]⟩, ⟨some 16, none, .un .not (.t 15)⟩, ⟨some 17, none, .mv (.t 16)⟩, ⟨some 18, some (17, false), .ld (.t 5) 1 false⟩, ⟨some 19, some (17, false), .bin .lss (.t 18) (.c (.int .i64 0))⟩, ⟨some 20, none, .pick (.t 17) (.c (.bool true)) (.t 19)⟩, ⟨some 21, none, .mv (.t 20)⟩, ⟨some 22, some (21, false), .ld (.t 5) 1 false⟩, ⟨some 23, some (21, false), .mv (.t 0)⟩, ⟨some 24, some (21, false), .bin .gtr (.t 22) (.t 23)⟩, ⟨some 25, none, .pick (.t 21) (.c (.bool true)) (.t 24)⟩]) (.cond (.t 25) (.seq (.reg [⟨some 8, none, .mv (.c .nilSlice)⟩]) .ret) .skip)) (.seq (.seq (.drq [⟨some 26, none, .ld (.t 9) 3 true⟩, ⟨some 27, none, .ld (.t 5) 1 false⟩, ⟨some 28, none, .call fn_impl_tries_atLeast [.t 26, .t 27]⟩, ⟨some 29, none, .ld (.t 9) 3 true⟩, ⟨some 30, none, .ld (.t 5) 1 false⟩, ⟨some 31, none, .call fn_impl_tries_atMost [.t 29, .t 30]⟩, ⟨some 32, none, .mnmx false (.t 28) [.t 31]⟩, ⟨some 33, none, .bin .mul (.c (.int .i64 2)) (.t 32)⟩, ⟨some 34, none, .ld (.t 9) 3 true⟩, ⟨some 35, none, .call fn_impl_tries_all [.t 34]⟩, ⟨some 36, none, .mnmx false (.t 33) [.t 35]⟩, ⟨some 37, none, .ld (.t 9) 3 true⟩, ⟨some 38, none, .mkf fn_impl_TwoSides_1 [.t 9, .t 5]⟩, ⟨some 39, none, .call fn_impl_tries_waysOf [.t 37, .t 38]⟩, ⟨some 40, none, .ld (.t 9) 3 true⟩, ⟨some 41, none, .mkf fn_impl_TwoSides_2 [.t 9, .t 5]⟩, ⟨some 42, none, .call fn_impl_tries_waysOf [.t 40, .t 41]⟩]) (.reg [⟨some 43, none, .bsl 3 1 [.int .i64 0] [(0, .t 36), (1, .t 39), (2, .t 42)]⟩, ⟨some 8, none, .mv (.t 43)⟩])) .ret)))
theorem code_impl_TwoSides : HasCode Tryd.prog fn_impl_TwoSides mc_impl_TwoSides [.t 8] 44 := ⟨mixed, Tryd.f24, _, Tryd.func24, rfl, by kernel_rfl, by kernel_rfl, rfl, by kernel_rfl⟩

def mc_spec_TwoSides : MC :=
  .seq (.reg [⟨some 8, none, .mv (.c .nilSlice)⟩]) (.seq (.seq (.reg [⟨some 18, none, .mv (.t 0)⟩, ⟨some 19, none, .mv (.t 2)⟩, ⟨some 20, none, .mv (.t 3)⟩, ⟨some 21, none, .call fn_spec_validTries [.t 18, .t 19, .t 20]⟩, ⟨some 22, none, .un .not (.t 21)⟩, ⟨some 23, none, .mv (.t 22)⟩, ⟨some 24, some (23, false), .mv (.t 1)⟩, ⟨some 25, some (23, false), .mv (.t 0)⟩, ⟨some 26, some (23, false), .call fn_spec_inRange [.t 24, .c (.int .i64 0), .t 25]⟩, ⟨some 27, some (23, false), .un .not (.t 26)⟩, ⟨some 28, none, .pick (.t 23) (.c (.bool true)) (.t 27)⟩]) (.cond (.t 28) (.seq (.reg [⟨some 8, none, .mv (.c .nilSlice)⟩]) .ret) .skip)) (.seq (.reg [⟨some 29, none, .mv (.t 3)⟩, ⟨some 30, none, .mv (.t 0)⟩, ⟨some 31, none, .call fn_spec_raise [.t 29, .t 30]⟩, ⟨some 9, none, .mv (.t 31)⟩]) (.seq (.reg [⟨some 32, none, .mv (.t 0)⟩, ⟨some 33, none, .mv (.t 1)⟩, ⟨some 34, none, .mv (.t 2)⟩, ⟨some 35, none, .mv (.t 3)⟩, ⟨some 36, none, .call fn_spec_tail [.t 32, .t 33, .t 34, .t 35]⟩, ⟨some 10, none, .mv (.t 36)⟩]) (.seq (.reg [⟨some 37, none, .mv (.t 9)⟩, ⟨some 38, none, .mv (.t 0)⟩, ⟨some 39, none, .mv (.t 1)⟩, ⟨some 40, none, .bin .add (.t 39) (.c (.int .i64 1))⟩, ⟨some 41, none, .mv (.t 2)⟩, ⟨some 42, none, .mv (.t 3)⟩, ⟨some 43, none, .call fn_spec_tail [.t 38, .t 40, .t 41, .t 42]⟩, ⟨some 44, none, .bin .sub (.t 37) (.t 43)⟩, ⟨some 11, none, .mv (.t 44)⟩]) (.seq (.reg [⟨some 12, none, .mv (.c (.int .i64 0))⟩]) (.seq (.reg [⟨some 13, none, .mv (.c (.int .i64 0))⟩]) (.seq (.seq (.reg [⟨some 14, none, .mv (.c (.int .i64 0))⟩]) (.block 0 (.loop (.seq (.seq (.reg [⟨some 45, none, .mv (.t 14)⟩, ⟨some 46, none, .mv (.t 0)⟩, ⟨some 47, none, .bin .leq (.t 45) (.t 46)⟩]) (.cond (.t 47) .skip (.exit 0))) (.seq (.block 1 (.seq (.reg [⟨some 50, none, .mv (.t 0)⟩, ⟨some 51, none, .mv (.t 14)⟩, ⟨some 52, none, .mv (.t 2)⟩, ⟨some 53, none, .mv (.t 3)⟩, ⟨some 54, none, .call fn_spec_term [.t 50, .t 51, .t 52, .t 53]⟩, ⟨some 15, none, .mv (.t 54)⟩]) (.seq (.seq (.reg [⟨some 55, none, .mv (.t 15)⟩, ⟨some 56, none, .mv (.t 0)⟩, ⟨some 57, none, .mv (.t 1)⟩, ⟨some 58, none, .mv (.t 2)⟩, ⟨some 59, none, .mv (.t 3)⟩, ⟨some 60, none, .call fn_spec_term [.t 56, .t 57, .t 58, .t 59]⟩, ⟨some 61, none, .bin .leq (.t 55) (.t 60)⟩]) (.cond (.t 61) (.reg [⟨some 62, none, .mv (.t 12)⟩, ⟨some 63, none, .mv (.t 15)⟩, ⟨some 64, none, .bin .add (.t 62) (.t 63)⟩, ⟨some 12, none, .mv (.t 64)⟩]) .skip)) (.seq (.reg [⟨some 65, none, .mv (.t 14)⟩, ⟨some 66, none, .mv (.t 3)⟩, ⟨some 67, none, .bin .mul (.t 65) (.t 66)⟩, ⟨some 68, none, .mv (.t 0)⟩, ⟨some 69, none, .mv (.t 2)⟩, ⟨some 70, none, .bin .mul (.t 68) (.t 69)⟩, ⟨some 71, none, .bin .sub (.t 67) (.t 70)⟩, ⟨some 16, none, .mv (.t 71)⟩]) (.seq (.reg [⟨some 72, none, .mv (.t 1)⟩, ⟨some 73, none, .mv (.t 3)⟩, ⟨some 74, none, .bin .mul (.t 72) (.t 73)⟩, ⟨some 75, none, .mv (.t 0)⟩, ⟨some 76, none, .mv (.t 2)⟩, ⟨some 77, none, .bin .mul (.t 75) (.t 76)⟩, ⟨some 78, none, .bin .sub (.t 74) (.t 77)⟩, ⟨some 17, none, .mv (.t 78)⟩]) (.seq (.reg [⟨some 79, none, .mv (.t 16)⟩, ⟨some 80, none, .mv (.t 16)⟩, ⟨some 81, none, .un .neg (.t 80)⟩, ⟨some 82, none, .mnmx true (.t 79) [.t 81]⟩, ⟨some 83, none, .mv (.t 17)⟩, ⟨some 84, none, .mv (.t 17)⟩, ⟨some 85, none, .un .neg (.t 84)⟩, ⟨some 86, none, .mnmx true (.t 83) [.t 85]⟩, ⟨some 87, none, .bin .geq (.t 82) (.t 86)⟩]) (.cond (.t 87) (.reg [⟨some 88, none, .mv (.t 13)⟩, ⟨some 89, none, .mv (.t 15)⟩, ⟨some 90, none, .bin .add (.t 88) (.t 89)⟩, ⟨some 13, none, .mv (.t 90)⟩]) .skip))))))) (.reg [⟨some 48, none, .mv (.t 14)⟩, ⟨some 49, none, .bin .add (.t 48) (.c (.int .i64 1))⟩, ⟨some 14, none, .mv (.t 49)⟩])))))) (.seq (.reg [⟨some 91, none, .mv (.t 10)⟩, ⟨some 92, none, .mv (.t 11)⟩, ⟨some 93, none, .mnmx false (.t 91) [.t 92]⟩, ⟨some 94, none, .bin .mul (.c (.int .i64 2)) (.t 93)⟩, ⟨some 95, none, .mv (.t 9)⟩, ⟨some 96, none, .mnmx false (.t 94) [.t 95]⟩, ⟨some 97, none, .mv (.t 12)⟩, ⟨some 98, none, .mv (.t 13)⟩, ⟨some 99, none, .bsl 3 1 [.int .i64 0] [(0, .t 96), (1, .t 97), (2, .t 98)]⟩, ⟨some 8, none, .mv (.t 99)⟩]) .ret))))))))
theorem code_spec_TwoSides : HasCode Tryd.prog fn_spec_TwoSides mc_spec_TwoSides [.t 8] 100 := ⟨mixed, Tryd.f26, _, Tryd.func26, rfl, by kernel_rfl, by kernel_rfl, rfl, by kernel_rfl⟩

def mc_laws_eqIntS : MC :=
  .seq (.reg [⟨some 4, none, .mv (.c (.bool false))⟩]) (.seq (.seq (.reg [⟨some 6, none, .mv (.t 0)⟩, ⟨some 7, none, .len (.t 6)⟩, ⟨some 8, none, .mv (.t 1)⟩, ⟨some 9, none, .len (.t 8)⟩, ⟨some 10, none, .bin .neq (.t 7) (.t 9)⟩]) (.cond (.t 10) (.seq (.reg [⟨some 4, none, .mv (.c (.bool false))⟩]) .ret) .skip)) (.seq (.seq (.reg [⟨some 5, none, .mv (.c (.int .i64 0))⟩]) (.block 0 (.loop (.seq (.seq (.reg [⟨some 11, none, .mv (.t 5)⟩, ⟨some 12, none, .mv (.t 0)⟩, ⟨some 13, none, .len (.t 12)⟩, ⟨some 14, none, .bin .lss (.t 11) (.t 13)⟩]) (.cond (.t 14) .skip (.exit 0))) (.seq (.block 1 (.seq (.drq [⟨some 17, none, .mv (.t 0)⟩, ⟨some 18, none, .mv (.t 5)⟩, ⟨some 19, none, .ixa (.t 17) (.t 18) 1⟩, ⟨some 20, none, .ld (.t 19) 1 false⟩, ⟨some 21, none, .mv (.t 1)⟩, ⟨some 22, none, .mv (.t 5)⟩, ⟨some 23, none, .ixa (.t 21) (.t 22) 1⟩, ⟨some 24, none, .ld (.t 23) 1 false⟩, ⟨some 25, none, .bin .neq (.t 20) (.t 24)⟩]) (.cond (.t 25) (.seq (.reg [⟨some 4, none, .mv (.c (.bool false))⟩]) .ret) .skip))) (.reg [⟨some 15, none, .mv (.t 5)⟩, ⟨some 16, none, .bin .add (.t 15) (.c (.int .i64 1))⟩, ⟨some 5, none, .mv (.t 16)⟩])))))) (.seq (.reg [⟨some 4, none, .mv (.c (.bool true))⟩]) .ret)))
theorem code_laws_eqIntS : HasCode Tryd.prog fn_laws_eqIntS mc_laws_eqIntS [.t 4] 26 := ⟨mixed, Tryd.f31, _, Tryd.func31, rfl, by kernel_rfl, by kernel_rfl, rfl, by kernel_rfl⟩

def mc_laws_markIntS : MC :=
  .seq (.reg [⟨some 4, none, .mv (.c (.int .i64 0))⟩]) (.seq (.seq (.reg [⟨some 5, none, .mv (.c (.int .i64 0))⟩]) (.block 0 (.loop (.seq (.seq (.reg [⟨some 6, none, .mv (.t 5)⟩, ⟨some 7, none, .mv (.t 0)⟩, ⟨some 8, none, .len (.t 7)⟩, ⟨some 9, none, .bin .lss (.t 6) (.t 8)⟩]) (.cond (.t 9) .skip (.exit 0))) (.seq (.block 1 (.seq (.reg [⟨some 12, none, .mv (.t 0)⟩, ⟨some 13, none, .mv (.t 5)⟩, ⟨some 14, none, .mv (.t 1)⟩, ⟨some 15, none, .ixa (.t 12) (.t 13) 1⟩, ⟨none, none, .st (.t 15) (.t 14) 1⟩]) (.reg [⟨some 16, none, .mv (.t 1)⟩, ⟨some 17, none, .bin .add (.t 16) (.c (.int .i64 1))⟩, ⟨some 1, none, .mv (.t 17)⟩]))) (.reg [⟨some 10, none, .mv (.t 5)⟩, ⟨some 11, none, .bin .add (.t 10) (.c (.int .i64 1))⟩, ⟨some 5, none, .mv (.t 11)⟩])))))) (.seq (.reg [⟨some 18, none, .mv (.t 1)⟩, ⟨some 4, none, .mv (.t 18)⟩]) .ret))
theorem code_laws_markIntS : HasCode Tryd.prog fn_laws_markIntS mc_laws_markIntS [.t 4] 19 := ⟨mixed, Tryd.f32, _, Tryd.func32, rfl, by kernel_rfl, by kernel_rfl, rfl, by kernel_rfl⟩

def mc_laws_heldIntS : MC :=
  .seq (.reg [⟨some 4, none, .mv (.c (.int .i64 0))⟩]) (.seq (.seq (.reg [⟨some 5, none, .mv (.c (.int .i64 0))⟩]) (.block 0 (.loop (.seq (.seq (.reg [⟨some 6, none, .mv (.t 5)⟩, ⟨some 7, none, .mv (.t 0)⟩, ⟨some 8, none, .len (.t 7)⟩, ⟨some 9, none, .bin .lss (.t 6) (.t 8)⟩]) (.cond (.t 9) .skip (.exit 0))) (.seq (.block 1 (.seq (.seq (.reg [⟨some 12, none, .mv (.t 0)⟩, ⟨some 13, none, .mv (.t 5)⟩, ⟨some 14, none, .ixa (.t 12) (.t 13) 1⟩, ⟨some 15, none, .ld (.t 14) 1 false⟩, ⟨some 16, none, .mv (.t 1)⟩, ⟨some 17, none, .bin .neq (.t 15) (.t 16)⟩]) (.cond (.t 17) (.seq (.reg [⟨some 4, none, .mv (.c (.int .i64 (-1)))⟩]) .ret) .skip)) (.reg [⟨some 18, none, .mv (.t 1)⟩, ⟨some 19, none, .bin .add (.t 18) (.c (.int .i64 1))⟩, ⟨some 1, none, .mv (.t 19)⟩]))) (.reg [⟨some 10, none, .mv (.t 5)⟩, ⟨some 11, none, .bin .add (.t 10) (.c (.int .i64 1))⟩, ⟨some 5, none, .mv (.t 11)⟩])))))) (.seq (.reg [⟨some 20, none, .mv (.t 1)⟩, ⟨some 4, none, .mv (.t 20)⟩]) .ret))
theorem code_laws_heldIntS : HasCode Tryd.prog fn_laws_heldIntS mc_laws_heldIntS [.t 4] 21 := ⟨mixed, Tryd.f33, _, Tryd.func33, rfl, by kernel_rfl, by kernel_rfl, rfl, by kernel_rfl⟩

def mc_impl_tries_valid : MC :=
  .seq (.reg [⟨some 1, none, .box (.t 0)⟩, ⟨some 2, none, .mv (.c (.bool false))⟩]) (.seq (.reg [⟨some 3, none, .fa (.t 1) 0⟩, ⟨some 4, none, .ld (.t 3) 1 false⟩, ⟨some 5, none, .bin .geq (.t 4) (.c (.int .i64 0))⟩, ⟨some 6, none, .mv (.t 5)⟩, ⟨some 7, some (6, true), .fa (.t 1) 0⟩, ⟨some 8, some (6, true), .ld (.t 7) 1 false⟩, ⟨some 9, some (6, true), .bin .leq (.t 8) (.c (.int .i64 10))⟩, ⟨some 10, none, .pick (.t 6) (.t 9) (.c (.bool false))⟩, ⟨some 11, none, .mv (.t 10)⟩, ⟨some 12, some (11, true), .fa (.t 1) 2⟩, ⟨some 13, some (11, true), .ld (.t 12) 1 false⟩, ⟨some 14, some (11, true), .bin .geq (.t 13) (.c (.int .i64 1))⟩, ⟨some 15, none, .pick (.t 11) (.t 14) (.c (.bool false))⟩, ⟨some 16, none, .mv (.t 15)⟩, ⟨some 17, some (16, true), .fa (.t 1) 2⟩, ⟨some 18, some (16, true), .ld (.t 17) 1 false⟩, ⟨some 19, some (16, true), .bin .leq (.t 18) (.c (.int .i64 12))⟩, ⟨some 20, none, .pick (.t 16) (.t 19) (.c (.bool false))⟩, ⟨some 21, none, .mv (.t 20)⟩, ⟨some 22, some (21, true), .fa (.t 1) 1⟩, ⟨some 23, some (21, true), .ld (.t 22) 1 false⟩, ⟨some 24, some (21, true), .bin .geq (.t 23) (.c (.int .i64 0))⟩, ⟨some 25, none, .pick (.t 21) (.t 24) (.c (.bool false))⟩, ⟨some 26, none, .mv (.t 25)⟩, ⟨some 27, some (26, true), .fa (.t 1) 1⟩, ⟨some 28, some (26, true), .ld (.t 27) 1 false⟩, ⟨some 29, some (26, true), .fa (.t 1) 2⟩, ⟨some 30, some (26, true), .ld (.t 29) 1 false⟩, ⟨some 31, some (26, true), .bin .leq (.t 28) (.t 30)⟩, ⟨some 32, none, .pick (.t 26) (.t 31) (.c (.bool false))⟩, ⟨some 2, none, .mv (.t 32)⟩]) .ret)
theorem code_impl_tries_valid : HasCode Tryd.prog fn_impl_tries_valid mc_impl_tries_valid [.t 2] 33 := ⟨mixed, Tryd.f37, _, Tryd.func37, rfl, by kernel_rfl, by kernel_rfl, rfl, by kernel_rfl⟩

def mc_impl_tries_atLeast : MC :=
  .seq (.reg [⟨some 2, none, .box (.t 0)⟩, ⟨some 3, none, .box (.t 1)⟩, ⟨some 4, none, .mv (.c (.int .i64 0))⟩]) (.seq (.reg [⟨some 5, none, .ld (.t 2) 3 true⟩, ⟨some 6, none, .mkf fn_impl_tries_atLeast_1 [.t 3]⟩, ⟨some 7, none, .call fn_impl_tries_waysOf [.t 5, .t 6]⟩, ⟨some 4, none, .mv (.t 7)⟩]) .ret)
theorem code_impl_tries_atLeast : HasCode Tryd.prog fn_impl_tries_atLeast mc_impl_tries_atLeast [.t 4] 8 := ⟨mixed, Tryd.f38, _, Tryd.func38, rfl, by kernel_rfl, by kernel_rfl, rfl, by kernel_rfl⟩

def mc_impl_tries_all : MC :=
  .seq (.reg [⟨some 1, none, .box (.t 0)⟩, ⟨some 2, none, .mv (.c (.int .i64 0))⟩]) (.seq (.reg [⟨some 3, none, .fa (.t 1) 2⟩, ⟨some 4, none, .ld (.t 3) 1 false⟩, ⟨some 5, none, .fa (.t 1) 0⟩, ⟨some 6, none, .ld (.t 5) 1 false⟩, ⟨some 7, none, .call fn_impl_power [.t 4, .t 6]⟩, ⟨some 2, none, .mv (.t 7)⟩]) .ret)
theorem code_impl_tries_all : HasCode Tryd.prog fn_impl_tries_all mc_impl_tries_all [.t 2] 8 := ⟨mixed, Tryd.f39, _, Tryd.func39, rfl, by kernel_rfl, by kernel_rfl, rfl, by kernel_rfl⟩

def mc_spec_validTries : MC :=
  .seq (.reg [⟨some 6, none, .mv (.c (.bool false))⟩]) (.seq (.reg [⟨some 7, none, .mv (.t 0)⟩, ⟨some 8, none, .call fn_spec_inRange [.t 7, .c (.int .i64 0), .c (.int .i64 10)]⟩, ⟨some 9, none, .mv (.t 8)⟩, ⟨some 10, some (9, true), .mv (.t 2)⟩, ⟨some 11, some (9, true), .call fn_spec_inRange [.t 10, .c (.int .i64 1), .c (.int .i64 12)]⟩, ⟨some 12, none, .pick (.t 9) (.t 11) (.c (.bool false))⟩, ⟨some 13, none, .mv (.t 12)⟩, ⟨some 14, some (13, true), .mv (.t 1)⟩, ⟨some 15, some (13, true), .mv (.t 2)⟩, ⟨some 16, some (13, true), .call fn_spec_inRange [.t 14, .c (.int .i64 0), .t 15]⟩, ⟨some 17, none, .pick (.t 13) (.t 16) (.c (.bool false))⟩, ⟨some 6, none, .mv (.t 17)⟩]) .ret)
theorem code_spec_validTries : HasCode Tryd.prog fn_spec_validTries mc_spec_validTries [.t 6] 18 := ⟨mixed, Tryd.f40, _, Tryd.func40, rfl, by kernel_rfl, by kernel_rfl, rfl, by kernel_rfl⟩

def mc_spec_tail : MC :=
  .seq (.reg [⟨some 8, none, .mv (.c (.int .i64 0))⟩]) (.seq (.reg [⟨some 9, none, .mv (.c (.int .i64 0))⟩]) (.seq (.seq (.reg [⟨some 11, none, .mv (.t 1)⟩, ⟨some 12, none, .mnmx true (.t 11) [.c (.int .i64 0)]⟩, ⟨some 10, none, .mv (.t 12)⟩]) (.block 0 (.loop (.seq (.seq (.reg [⟨some 13, none, .mv (.t 10)⟩, ⟨some 14, none, .mv (.t 0)⟩, ⟨some 15, none, .bin .leq (.t 13) (.t 14)⟩]) (.cond (.t 15) .skip (.exit 0))) (.seq (.block 1 (.reg [⟨some 18, none, .mv (.t 9)⟩, ⟨some 19, none, .mv (.t 0)⟩, ⟨some 20, none, .mv (.t 10)⟩, ⟨some 21, none, .mv (.t 2)⟩, ⟨some 22, none, .mv (.t 3)⟩, ⟨some 23, none, .call fn_spec_term [.t 19, .t 20, .t 21, .t 22]⟩, ⟨some 24, none, .bin .add (.t 18) (.t 23)⟩, ⟨some 9, none, .mv (.t 24)⟩])) (.reg [⟨some 16, none, .mv (.t 10)⟩, ⟨some 17, none, .bin .add (.t 16) (.c (.int .i64 1))⟩, ⟨some 10, none, .mv (.t 17)⟩])))))) (.seq (.reg [⟨some 25, none, .mv (.t 9)⟩, ⟨some 8, none, .mv (.t 25)⟩]) .ret)))
theorem code_spec_tail : HasCode Tryd.prog fn_spec_tail mc_spec_tail [.t 8] 26 := ⟨mixed, Tryd.f41, _, Tryd.func41, rfl, by kernel_rfl, by kernel_rfl, rfl, by kernel_rfl⟩

def mc_spec_raise : MC :=
  .seq (.reg [⟨some 4, none, .mv (.c (.int .i64 0))⟩]) (.seq (.reg [⟨some 5, none, .mv (.c (.int .i64 1))⟩]) (.seq (.block 0 (.loop (.seq (.seq (.reg [⟨some 6, none, .mv (.t 1)⟩, ⟨some 7, none, .bin .gtr (.t 6) (.c (.int .i64 0))⟩]) (.cond (.t 7) .skip (.exit 0))) (.seq (.block 1 (.reg [⟨some 10, none, .mv (.t 5)⟩, ⟨some 11, none, .mv (.t 0)⟩, ⟨some 12, none, .bin .mul (.t 10) (.t 11)⟩, ⟨some 5, none, .mv (.t 12)⟩])) (.reg [⟨some 8, none, .mv (.t 1)⟩, ⟨some 9, none, .bin .sub (.t 8) (.c (.int .i64 1))⟩, ⟨some 1, none, .mv (.t 9)⟩]))))) (.seq (.reg [⟨some 13, none, .mv (.t 5)⟩, ⟨some 4, none, .mv (.t 13)⟩]) .ret)))
theorem code_spec_raise : HasCode Tryd.prog fn_spec_raise mc_spec_raise [.t 4] 14 := ⟨mixed, Tryd.f42, _, Tryd.func42, rfl, by kernel_rfl, by kernel_rfl, rfl, by kernel_rfl⟩

def mc_spec_inRange : MC :=
  .seq (.reg [⟨some 6, none, .mv (.c (.bool false))⟩]) (.seq (.reg [⟨some 7, none, .mv (.t 1)⟩, ⟨some 8, none, .mv (.t 0)⟩, ⟨some 9, none, .bin .leq (.t 7) (.t 8)⟩, ⟨some 10, none, .mv (.t 9)⟩, ⟨some 11, some (10, true), .mv (.t 0)⟩, ⟨some 12, some (10, true), .mv (.t 2)⟩, ⟨some 13, some (10, true), .bin .leq (.t 11) (.t 12)⟩, ⟨some 14, none, .pick (.t 10) (.t 13) (.c (.bool false))⟩, ⟨some 6, none, .mv (.t 14)⟩]) .ret)
theorem code_spec_inRange : HasCode Tryd.prog fn_spec_inRange mc_spec_inRange [.t 6] 15 := ⟨mixed, Tryd.f46, _, Tryd.func46, rfl, by kernel_rfl, by kernel_rfl, rfl, by kernel_rfl⟩

def mc_impl_tries_atMost : MC :=
  .seq (.reg [⟨some 2, none, .box (.t 0)⟩, ⟨some 3, none, .box (.t 1)⟩, ⟨some 4, none, .mv (.c (.int .i64 0))⟩]) (.seq (.reg [⟨some 5, none, .ld (.t 2) 3 true⟩, ⟨some 6, none, .mkf fn_impl_tries_atMost_1 [.t 3]⟩, ⟨some 7, none, .call fn_impl_tries_waysOf [.t 5, .t 6]⟩, ⟨some 4, none, .mv (.t 7)⟩]) .ret)
theorem code_impl_tries_atMost : HasCode Tryd.prog fn_impl_tries_atMost mc_impl_tries_atMost [.t 4] 8 := ⟨mixed, Tryd.f48, _, Tryd.func48, rfl, by kernel_rfl, by kernel_rfl, rfl, by kernel_rfl⟩

def mc_impl_tries_waysOf : MC :=
  .seq (.reg [⟨some 2, none, .box (.t 0)⟩, ⟨some 4, none, .mv (.c (.int .i64 0))⟩]) (.seq (.reg [⟨some 5, none, .mv (.c (.int .i64 0))⟩]) (.seq (.seq (.reg [⟨some 7, none, .fa (.t 2) 0⟩, ⟨some 8, none, .ld (.t 7) 1 false⟩, ⟨some 9, none, .bin .add (.t 8) (.c (.int .i64 1))⟩, ⟨some 10, none, .mv (.c (.int .i64 0))⟩]) (.block 0 (.loop (.seq (.reg [⟨some 11, none, .bin .lss (.t 10) (.t 9)⟩]) (.seq (.cond (.t 11) .skip (.exit 0)) (.seq (.block 1 (.seq (.reg [⟨some 12, none, .mv (.t 10)⟩, ⟨some 6, none, .mv (.t 12)⟩]) (.seq (.reg [⟨some 13, none, .mv (.t 1)⟩, ⟨some 14, none, .mv (.t 6)⟩, ⟨some 15, none, .callv (.t 13) [.t 14]⟩]) (.cond (.t 15) (.reg [⟨some 16, none, .mv (.t 5)⟩, ⟨some 17, none, .ld (.t 2) 3 true⟩, ⟨some 18, none, .mv (.t 6)⟩, ⟨some 19, none, .call fn_impl_tries_ways [.t 17, .t 18]⟩, ⟨some 20, none, .bin .add (.t 16) (.t 19)⟩, ⟨some 5, none, .mv (.t 20)⟩]) .skip)))) (.reg [⟨some 21, none, .bin .add (.t 10) (.c (.int .i64 1))⟩, ⟨some 10, none, .mv (.t 21)⟩]))))))) (.seq (.reg [⟨some 22, none, .mv (.t 5)⟩, ⟨some 4, none, .mv (.t 22)⟩]) .ret)))
theorem code_impl_tries_waysOf : HasCode Tryd.prog fn_impl_tries_waysOf mc_impl_tries_waysOf [.t 4] 23 := ⟨mixed, Tryd.f49, _, Tryd.func49, rfl, by kernel_rfl, by kernel_rfl, rfl, by kernel_rfl⟩

def mc_impl_TwoSides_1 : MC :=
  .seq (.reg [⟨some 4, none, .mv (.c (.bool false))⟩]) (.seq (.drq [⟨some 5, none, .ld (.t 1) 3 true⟩, ⟨some 6, none, .mv (.t 0)⟩, ⟨some 7, none, .call fn_impl_tries_ways [.t 5, .t 6]⟩, ⟨some 8, none, .ld (.t 1) 3 true⟩, ⟨some 9, none, .ld (.t 2) 1 false⟩, ⟨some 10, none, .call fn_impl_tries_ways [.t 8, .t 9]⟩, ⟨some 11, none, .bin .leq (.t 7) (.t 10)⟩, ⟨some 4, none, .mv (.t 11)⟩]) .ret)
theorem code_impl_TwoSides_1 : HasCode Tryd.prog fn_impl_TwoSides_1 mc_impl_TwoSides_1 [.t 4] 12 := ⟨mixed, Tryd.f50, _, Tryd.func50, rfl, by kernel_rfl, by kernel_rfl, rfl, by kernel_rfl⟩

def mc_impl_tries_ways : MC :=
  .seq (.reg [⟨some 2, none, .box (.t 0)⟩, ⟨some 4, none, .mv (.c (.int .i64 0))⟩]) (.seq (.drq [⟨some 5, none, .fa (.t 2) 0⟩, ⟨some 6, none, .ld (.t 5) 1 false⟩, ⟨some 7, none, .mv (.t 1)⟩, ⟨some 8, none, .arra (.c (.gl gl_impl_setCounts 0)) (.t 6) 11 11⟩, ⟨some 9, none, .arra (.t 8) (.t 7) 11 1⟩, ⟨some 10, none, .ld (.t 9) 1 false⟩, ⟨some 11, none, .fa (.t 2) 1⟩, ⟨some 12, none, .ld (.t 11) 1 false⟩, ⟨some 13, none, .mv (.t 1)⟩, ⟨some 14, none, .call fn_impl_power [.t 12, .t 13]⟩, ⟨some 15, none, .bin .mul (.t 10) (.t 14)⟩, ⟨some 16, none, .fa (.t 2) 2⟩, ⟨some 17, none, .ld (.t 16) 1 false⟩, ⟨some 18, none, .fa (.t 2) 1⟩, ⟨some 19, none, .ld (.t 18) 1 false⟩, ⟨some 20, none, .bin .sub (.t 17) (.t 19)⟩, ⟨some 21, none, .fa (.t 2) 0⟩, ⟨some 22, none, .ld (.t 21) 1 false⟩, ⟨some 23, none, .mv (.t 1)⟩, ⟨some 24, none, .bin .sub (.t 22) (.t 23)⟩, ⟨some 25, none, .call fn_impl_power [.t 20, .t 24]⟩, ⟨some 26, none, .bin .mul (.t 15) (.t 25)⟩, ⟨some 4, none, .mv (.t 26)⟩]) .ret)
theorem code_impl_tries_ways : HasCode Tryd.prog fn_impl_tries_ways mc_impl_tries_ways [.t 4] 27 := ⟨mixed, Tryd.f51, _, Tryd.func51, rfl, by kernel_rfl, by kernel_rfl, rfl, by kernel_rfl⟩

def mc_impl_TwoSides_2 : MC :=
  .seq (.reg [⟨some 4, none, .mv (.c (.bool false))⟩]) (.seq (.drq [⟨some 5, none, .ld (.t 1) 3 true⟩, ⟨some 6, none, .mv (.t 0)⟩, ⟨some 7, none, .call fn_impl_tries_gap [.t 5, .t 6]⟩, ⟨some 8, none, .ld (.t 1) 3 true⟩, ⟨some 9, none, .ld (.t 2) 1 false⟩, ⟨some 10, none, .call fn_impl_tries_gap [.t 8, .t 9]⟩, ⟨some 11, none, .bin .geq (.t 7) (.t 10)⟩, ⟨some 4, none, .mv (.t 11)⟩]) .ret)
theorem code_impl_TwoSides_2 : HasCode Tryd.prog fn_impl_TwoSides_2 mc_impl_TwoSides_2 [.t 4] 12 := ⟨mixed, Tryd.f52, _, Tryd.func52, rfl, by kernel_rfl, by kernel_rfl, rfl, by kernel_rfl⟩

def mc_impl_tries_gap : MC :=
  .seq (.reg [⟨some 2, none, .box (.t 0)⟩, ⟨some 4, none, .mv (.c (.int .i64 0))⟩]) (.seq (.reg [⟨some 6, none, .fa (.t 2) 2⟩, ⟨some 7, none, .ld (.t 6) 1 false⟩, ⟨some 8, none, .mv (.t 1)⟩, ⟨some 9, none, .bin .mul (.t 7) (.t 8)⟩, ⟨some 10, none, .fa (.t 2) 0⟩, ⟨some 11, none, .ld (.t 10) 1 false⟩, ⟨some 12, none, .fa (.t 2) 1⟩, ⟨some 13, none, .ld (.t 12) 1 false⟩, ⟨some 14, none, .bin .mul (.t 11) (.t 13)⟩, ⟨some 15, none, .bin .sub (.t 9) (.t 14)⟩, ⟨some 5, none, .mv (.t 15)⟩]) (.seq (.reg [⟨some 16, none, .mv (.t 5)⟩, ⟨some 17, none, .mv (.t 5)⟩, ⟨some 18, none, .un .neg (.t 17)⟩, ⟨some 19, none, .mnmx true (.t 16) [.t 18]⟩, ⟨some 4, none, .mv (.t 19)⟩]) .ret))
theorem code_impl_tries_gap : HasCode Tryd.prog fn_impl_tries_gap mc_impl_tries_gap [.t 4] 20 := ⟨mixed, Tryd.f53, _, Tryd.func53, rfl, by kernel_rfl, by kernel_rfl, rfl, by kernel_rfl⟩

def mc_spec_term : MC :=
  .seq (.reg [⟨some 8, none, .mv (.c (.int .i64 0))⟩]) (.seq (.reg [⟨some 9, none, .mv (.t 0)⟩, ⟨some 10, none, .mv (.t 1)⟩, ⟨some 11, none, .call fn_spec_choose [.t 9, .t 10]⟩, ⟨some 12, none, .mv (.t 2)⟩, ⟨some 13, none, .mv (.t 1)⟩, ⟨some 14, none, .call fn_spec_raise [.t 12, .t 13]⟩, ⟨some 15, none, .bin .mul (.t 11) (.t 14)⟩, ⟨some 16, none, .mv (.t 3)⟩, ⟨some 17, none, .mv (.t 2)⟩, ⟨some 18, none, .bin .sub (.t 16) (.t 17)⟩, ⟨some 19, none, .mv (.t 0)⟩, ⟨some 20, none, .mv (.t 1)⟩, ⟨some 21, none, .bin .sub (.t 19) (.t 20)⟩, ⟨some 22, none, .call fn_spec_raise [.t 18, .t 21]⟩, ⟨some 23, none, .bin .mul (.t 15) (.t 22)⟩, ⟨some 8, none, .mv (.t 23)⟩]) .ret)
theorem code_spec_term : HasCode Tryd.prog fn_spec_term mc_spec_term [.t 8] 24 := ⟨mixed, Tryd.f54, _, Tryd.func54, rfl, by kernel_rfl, by kernel_rfl, rfl, by kernel_rfl⟩

def mc_impl_power : MC :=
  .seq (.reg [⟨some 4, none, .mv (.c (.int .i64 0))⟩]) (.seq (.reg [⟨some 5, none, .mv (.c (.int .i64 1))⟩]) (.seq (.seq (.reg [⟨some 6, none, .mv (.t 1)⟩, ⟨some 7, none, .mv (.c (.int .i64 0))⟩]) (.block 0 (.loop (.seq (.reg [⟨some 8, none, .bin .lss (.t 7) (.t 6)⟩]) (.seq (.cond (.t 8) .skip (.exit 0)) (.seq (.block 1 (.reg [⟨some 9, none, .mv (.t 5)⟩, ⟨some 10, none, .mv (.t 0)⟩, ⟨some 11, none, .bin .mul (.t 9) (.t 10)⟩, ⟨some 5, none, .mv (.t 11)⟩])) (.reg [⟨some 12, none, .bin .add (.t 7) (.c (.int .i64 1))⟩, ⟨some 7, none, .mv (.t 12)⟩]))))))) (.seq (.reg [⟨some 13, none, .mv (.t 5)⟩, ⟨some 4, none, .mv (.t 13)⟩]) .ret)))
theorem code_impl_power : HasCode Tryd.prog fn_impl_power mc_impl_power [.t 4] 14 := ⟨mixed, Tryd.f56, _, Tryd.func56, rfl, by kernel_rfl, by kernel_rfl, rfl, by kernel_rfl⟩

def mc_spec_choose : MC :=
  .seq (.reg [⟨some 4, none, .mv (.c (.int .i64 0))⟩]) (.seq (.seq (.reg [⟨some 7, none, .mv (.t 1)⟩, ⟨some 8, none, .bin .lss (.t 7) (.c (.int .i64 0))⟩, ⟨some 9, none, .mv (.t 8)⟩, ⟨some 10, some (9, false), .mv (.t 1)⟩, ⟨some 11, some (9, false), .mv (.t 0)⟩, ⟨some 12, some (9, false), .bin .gtr (.t 10) (.t 11)⟩, ⟨some 13, none, .pick (.t 9) (.c (.bool true)) (.t 12)⟩]) (.cond (.t 13) (.seq (.reg [⟨some 4, none, .mv (.c (.int .i64 0))⟩]) .ret) .skip)) (.seq (.reg [⟨some 5, none, .mv (.c (.int .i64 1))⟩]) (.seq (.seq (.reg [⟨some 6, none, .mv (.c (.int .i64 0))⟩]) (.block 0 (.loop (.seq (.seq (.reg [⟨some 14, none, .mv (.t 6)⟩, ⟨some 15, none, .mv (.t 1)⟩, ⟨some 16, none, .bin .lss (.t 14) (.t 15)⟩]) (.cond (.t 16) .skip (.exit 0))) (.seq (.block 1 (.reg [⟨some 19, none, .mv (.t 5)⟩, ⟨some 20, none, .mv (.t 0)⟩, ⟨some 21, none, .mv (.t 6)⟩, ⟨some 22, none, .bin .sub (.t 20) (.t 21)⟩, ⟨some 23, none, .bin .mul (.t 19) (.t 22)⟩, ⟨some 24, none, .mv (.t 6)⟩, ⟨some 25, none, .bin .add (.t 24) (.c (.int .i64 1))⟩, ⟨some 26, none, .bin .quo (.t 23) (.t 25)⟩, ⟨some 5, none, .mv (.t 26)⟩])) (.reg [⟨some 17, none, .mv (.t 6)⟩, ⟨some 18, none, .bin .add (.t 17) (.c (.int .i64 1))⟩, ⟨some 6, none, .mv (.t 18)⟩])))))) (.seq (.reg [⟨some 27, none, .mv (.t 5)⟩, ⟨some 4, none, .mv (.t 27)⟩]) .ret))))
theorem code_spec_choose : HasCode Tryd.prog fn_spec_choose mc_spec_choose [.t 4] 28 := ⟨mixed, Tryd.f58, _, Tryd.func58, rfl, by kernel_rfl, by kernel_rfl, rfl, by kernel_rfl⟩

def mc_impl_tries_atLeast_1 : MC :=
  .seq (.reg [⟨some 3, none, .mv (.c (.bool false))⟩]) (.seq (.reg [⟨some 4, none, .mv (.t 0)⟩, ⟨some 5, none, .ld (.t 1) 1 false⟩, ⟨some 6, none, .bin .geq (.t 4) (.t 5)⟩, ⟨some 3, none, .mv (.t 6)⟩]) .ret)
theorem code_impl_tries_atLeast_1 : HasCode Tryd.prog fn_impl_tries_atLeast_1 mc_impl_tries_atLeast_1 [.t 3] 7 := ⟨mixed, Tryd.f59, _, Tryd.func59, rfl, by kernel_rfl, by kernel_rfl, rfl, by kernel_rfl⟩

def mc_impl_tries_atMost_1 : MC :=
  .seq (.reg [⟨some 3, none, .mv (.c (.bool false))⟩]) (.seq (.reg [⟨some 4, none, .mv (.t 0)⟩, ⟨some 5, none, .ld (.t 1) 1 false⟩, ⟨some 6, none, .bin .leq (.t 4) (.t 5)⟩, ⟨some 3, none, .mv (.t 6)⟩]) .ret)
theorem code_impl_tries_atMost_1 : HasCode Tryd.prog fn_impl_tries_atMost_1 mc_impl_tries_atMost_1 [.t 3] 7 := ⟨mixed, Tryd.f60, _, Tryd.func60, rfl, by kernel_rfl, by kernel_rfl, rfl, by kernel_rfl⟩

end Go.Rx.Try
