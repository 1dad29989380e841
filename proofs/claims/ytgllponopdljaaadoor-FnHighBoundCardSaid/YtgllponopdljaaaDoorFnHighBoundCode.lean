/-
  The code of each function of the program, taken up. Made by a program.
-/
import Derived.Test.YtgllponopdljaaaDoorProg
import Derived.Test.YtgllponopdljaaaDoorRxI
import Derived.KernelRfl
namespace Go.Rx.Try
open Go.Proofs
set_option maxRecDepth 100000

abbrev fn_laws_FnTailChance : FuncId := 3
abbrev fn_laws_FnLowBound : FuncId := 4
abbrev fn_laws_FnHighBound : FuncId := 5
abbrev fn_laws_FnTwoSides : FuncId := 6
abbrev fn_laws_FnMiddlePlaces : FuncId := 7
abbrev fn_laws_FnExactTailChance : FuncId := 8
abbrev fn_laws_FnExactLowBound : FuncId := 9
abbrev fn_laws_FnExactHighBound : FuncId := 10
abbrev fn_laws_FnExactTwoSides : FuncId := 11
abbrev fn_laws_FnExactMiddlePlaces : FuncId := 12
abbrev fn_spec_DrawTailChance : FuncId := 13
abbrev fn_impl_TailChance : FuncId := 14
abbrev fn_spec_TailChance : FuncId := 15
abbrev fn_laws_raised : FuncId := 16
abbrev fn_spec_DrawLowBound : FuncId := 17
abbrev fn_impl_LowBound : FuncId := 18
abbrev fn_spec_LowBound : FuncId := 19
abbrev fn_spec_DrawHighBound : FuncId := 20
abbrev fn_impl_HighBound : FuncId := 21
abbrev fn_spec_HighBound : FuncId := 22
abbrev fn_spec_DrawTwoSides : FuncId := 23
abbrev fn_impl_TwoSides : FuncId := 24
abbrev fn_laws_equalInts : FuncId := 25
abbrev fn_spec_TwoSides : FuncId := 26
abbrev fn_spec_DrawMiddlePlaces : FuncId := 27
abbrev fn_impl_MiddlePlaces : FuncId := 28
abbrev fn_spec_MiddlePlaces : FuncId := 29
abbrev fn_laws_choose : FuncId := 30
abbrev fn_laws_eqIntS : FuncId := 31
abbrev fn_laws_markIntS : FuncId := 32
abbrev fn_laws_heldIntS : FuncId := 33
abbrev fn_spec_newReader : FuncId := 34
abbrev fn_spec_reader_one : FuncId := 35
abbrev fn_spec_reader_pick : FuncId := 36
abbrev fn_impl_tries_valid : FuncId := 37
abbrev fn_impl_tries_atLeast : FuncId := 38
abbrev fn_impl_tries_all : FuncId := 39
abbrev fn_spec_validTries : FuncId := 40
abbrev fn_spec_tail : FuncId := 41
abbrev fn_spec_raise : FuncId := 42
abbrev fn_spec_aLevel : FuncId := 43
abbrev fn_impl_validBound : FuncId := 44
abbrev fn_impl_part_holds : FuncId := 45
abbrev fn_spec_inRange : FuncId := 46
abbrev fn_spec_validLevel : FuncId := 47
abbrev fn_impl_tries_atMost : FuncId := 48
abbrev fn_impl_tries_waysOf : FuncId := 49
abbrev fn_impl_TwoSides_1 : FuncId := 50
abbrev fn_impl_tries_ways : FuncId := 51
abbrev fn_impl_TwoSides_2 : FuncId := 52
abbrev fn_impl_tries_gap : FuncId := 53
abbrev fn_spec_term : FuncId := 54
abbrev fn_impl_part_valid : FuncId := 55
abbrev fn_impl_power : FuncId := 56
abbrev fn_spec_power : FuncId := 57
abbrev fn_spec_choose : FuncId := 58
abbrev fn_impl_tries_atLeast_1 : FuncId := 59
abbrev fn_impl_tries_atMost_1 : FuncId := 60
abbrev fn_runtime_boundsError_Error : FuncId := 61
abbrev fn_runtime_boundsError_RuntimeError : FuncId := 62
abbrev fn_runtime_errorString_Error : FuncId := 63
abbrev fn_runtime_errorString_RuntimeError : FuncId := 64
abbrev fn_runtime_plainError_Error : FuncId := 65
abbrev fn_runtime_plainError_RuntimeError : FuncId := 66
abbrev fn_runtime_errorAddressString_Error : FuncId := 67
abbrev fn_runtime_errorAddressString_RuntimeError : FuncId := 68
abbrev fn_runtime_TypeAssertionError_Error : FuncId := 69
abbrev fn_runtime_TypeAssertionError_RuntimeError : FuncId := 70
abbrev fn_runtime_PanicNilError_Error : FuncId := 71
abbrev fn_runtime_PanicNilError_RuntimeError : FuncId := 72
abbrev fn_internal_abi_Type_Align : FuncId := 73
abbrev fn_internal_runtime_maps_unhashableTypeError_Error : FuncId := 74
abbrev fn_internal_runtime_maps_unhashableTypeError_RuntimeError : FuncId := 75
abbrev fn_internal_abi_Kind_String : FuncId := 76
abbrev fn_var_s_door_gosem_cut_vars_holds_initialisers_alone_see_the_manifest_s_row_cutvarsword_look_11_test_files_too : FuncId := 77
abbrev fn_var_s_door_impl_setCounts_is_laid_by_its_own_initialiser_plain_data_look_11 : FuncId := 78
abbrev fn_var_s_door_the_look_of_gosem_cut_vars_went_over_the_folder_that_the_caller_named_as_the_repository_s_root_look_11 : FuncId := 79
abbrev fn_gosem_cut_vars : FuncId := 80
abbrev gl_impl_setCounts : Nat := 0
theorem mixed : Tryd.prog.follows .mixedOrders = true := by kernel_rfl

def mc_laws_FnHighBound : MC :=
  .seq (.reg [⟨some 2, none, .mv (.c (.bool false))⟩]) (.seq (.seq (.reg [⟨some 9, none, .mv (.t 0)⟩, ⟨some 10, none, .len (.t 9)⟩, ⟨some 11, none, .bin .gtr (.t 10) (.c (.int .i64 1048576))⟩]) (.cond (.t 11) (.seq (.reg [⟨some 2, none, .mv (.c (.bool true))⟩]) .ret) .skip)) (.seq (.reg [⟨some 13, none, .mv (.t 0)⟩, ⟨some 14, none, .call fn_spec_DrawHighBound [.t 13]⟩, ⟨some 12, none, .mv (.t 14)⟩, ⟨some 15, none, .ext (.t 12) 0⟩, ⟨some 16, none, .ext (.t 12) 1⟩, ⟨some 17, none, .ext (.t 12) 2⟩, ⟨some 18, none, .ext (.t 12) 3⟩, ⟨some 19, none, .ext (.t 12) 4⟩, ⟨some 3, none, .mv (.t 15)⟩, ⟨some 4, none, .mv (.t 16)⟩, ⟨some 5, none, .mv (.t 17)⟩, ⟨some 6, none, .mv (.t 18)⟩, ⟨some 7, none, .mv (.t 19)⟩]) (.seq (.reg [⟨some 20, none, .mv (.t 3)⟩, ⟨some 21, none, .mv (.t 4)⟩, ⟨some 22, none, .mv (.t 5)⟩, ⟨some 23, none, .mv (.t 6)⟩, ⟨some 24, none, .mv (.t 7)⟩, ⟨some 25, none, .call fn_impl_HighBound [.t 20, .t 21, .t 22, .t 23, .t 24]⟩, ⟨some 8, none, .mv (.t 25)⟩]) (.seq (.seq (.reg [⟨some 26, none, .mv (.t 8)⟩, ⟨some 27, none, .mv (.t 3)⟩, ⟨some 28, none, .mv (.t 4)⟩, ⟨some 29, none, .mv (.t 5)⟩, ⟨some 30, none, .mv (.t 6)⟩, ⟨some 31, none, .mv (.t 7)⟩, ⟨some 32, none, .call fn_spec_HighBound [.t 27, .t 28, .t 29, .t 30, .t 31]⟩, ⟨some 33, none, .bin .neq (.t 26) (.t 32)⟩, ⟨some 34, none, .mv (.t 33)⟩, ⟨some 35, some (34, false), .mv (.t 8)⟩, ⟨some 36, some (34, false), .bin .lss (.t 35) (.c (.int .i64 0))⟩, ⟨some 37, none, .pick (.t 34) (.c (.bool true)) (.t 36)⟩]) (.cond (.t 37) (.seq (.reg [⟨some 38, none, .mv (.t 8)⟩, ⟨some 39, none, .mv (.t 3)⟩, ⟨some 40, none, .mv (.t 4)⟩, ⟨some 41, none, .mv (.t 5)⟩, ⟨some 42, none, .mv (.t 6)⟩, ⟨some 43, none, .mv (.t 7)⟩, ⟨some 44, none, .call fn_spec_HighBound [.t 39, .t 40, .t 41, .t 42, .t 43]⟩, ⟨some 45, none, .bin .eql (.t 38) (.t 44)⟩, ⟨some 2, none, .mv (.t 45)⟩]) .ret) .skip)) (.seq (.reg [⟨some 46, none, .mv (.t 8)⟩, ⟨some 47, none, .mv (.t 5)⟩, ⟨some 48, none, .mv (.t 3)⟩, ⟨some 49, none, .mv (.t 3)⟩, ⟨some 50, none, .mv (.t 4)⟩, ⟨some 51, none, .bin .sub (.t 49) (.t 50)⟩, ⟨some 52, none, .mv (.t 5)⟩, ⟨some 53, none, .mv (.t 6)⟩, ⟨some 54, none, .mv (.t 7)⟩, ⟨some 55, none, .call fn_impl_LowBound [.t 48, .t 51, .t 52, .t 53, .t 54]⟩, ⟨some 56, none, .bin .sub (.t 47) (.t 55)⟩, ⟨some 57, none, .bin .eql (.t 46) (.t 56)⟩, ⟨some 2, none, .mv (.t 57)⟩]) .ret)))))
theorem code_laws_FnHighBound : HasCode Tryd.prog fn_laws_FnHighBound mc_laws_FnHighBound [.t 2] 58 := ⟨mixed, Tryd.f5, _, Tryd.func5, rfl, by kernel_rfl, by kernel_rfl, rfl, by kernel_rfl⟩

def mc_impl_LowBound : MC :=
  .seq (.reg [⟨some 10, none, .mv (.c (.int .i64 0))⟩]) (.seq (.reg [⟨some 14, none, .mv (.t 3)⟩, ⟨some 15, none, .mv (.t 4)⟩, ⟨some 16, none, .bld [.int .i64 0, .int .i64 0] [(0, 1, .t 14), (1, 1, .t 15)]⟩, ⟨some 11, none, .new [.int .i64 0, .int .i64 0]⟩, ⟨none, none, .st (.t 11) (.t 16) 2⟩]) (.seq (.seq (.reg [⟨some 17, none, .mv (.t 0)⟩, ⟨some 18, none, .mv (.t 2)⟩, ⟨some 19, none, .ld (.t 11) 2 true⟩, ⟨some 20, none, .call fn_impl_validBound [.t 17, .t 18, .t 19]⟩, ⟨some 21, none, .un .not (.t 20)⟩, ⟨some 22, none, .mv (.t 21)⟩, ⟨some 23, some (22, false), .mv (.t 1)⟩, ⟨some 24, some (22, false), .bin .lss (.t 23) (.c (.int .i64 1))⟩, ⟨some 25, none, .pick (.t 22) (.c (.bool true)) (.t 24)⟩, ⟨some 26, none, .mv (.t 25)⟩, ⟨some 27, some (26, false), .mv (.t 1)⟩, ⟨some 28, some (26, false), .mv (.t 0)⟩, ⟨some 29, some (26, false), .bin .gtr (.t 27) (.t 28)⟩, ⟨some 30, none, .pick (.t 26) (.c (.bool true)) (.t 29)⟩]) (.cond (.t 30) (.seq (.reg [⟨some 10, none, .mv (.c (.int .i64 (-1)))⟩]) .ret) .skip)) (.seq (.seq (.reg [⟨some 31, none, .mv (.t 2)⟩, ⟨some 32, none, .mv (.c (.int .i64 0))⟩]) (.block 0 (.loop (.seq (.reg [⟨some 33, none, .bin .lss (.t 32) (.t 31)⟩]) (.seq (.cond (.t 33) .skip (.exit 0)) (.seq (.block 1 (.seq (.reg [⟨some 34, none, .mv (.t 32)⟩, ⟨some 12, none, .mv (.t 34)⟩]) (.seq (.reg [⟨some 35, none, .mv (.t 0)⟩, ⟨some 36, none, .mv (.t 2)⟩, ⟨some 37, none, .mv (.t 12)⟩, ⟨some 38, none, .bin .sub (.t 36) (.t 37)⟩, ⟨some 39, none, .mv (.t 2)⟩, ⟨some 40, none, .bld [.int .i64 0, .int .i64 0, .int .i64 0] [(0, 1, .t 35), (1, 1, .t 38), (2, 1, .t 39)]⟩, ⟨some 13, none, .new [.int .i64 0, .int .i64 0, .int .i64 0]⟩, ⟨none, none, .st (.t 13) (.t 40) 3⟩]) (.seq (.drq [⟨some 41, none, .ld (.t 11) 2 true⟩, ⟨some 42, none, .ld (.t 13) 3 true⟩, ⟨some 43, none, .mv (.t 1)⟩, ⟨some 44, none, .call fn_impl_tries_atLeast [.t 42, .t 43]⟩, ⟨some 45, none, .ld (.t 13) 3 true⟩, ⟨some 46, none, .call fn_impl_tries_all [.t 45]⟩, ⟨some 47, none, .call fn_impl_part_holds [.t 41, .t 44, .t 46]⟩]) (.cond (.t 47) (.seq (.reg [⟨some 48, none, .fa (.t 13) 1⟩, ⟨some 49, none, .ld (.t 48) 1 false⟩, ⟨some 10, none, .mv (.t 49)⟩]) .ret) .skip))))) (.reg [⟨some 50, none, .bin .add (.t 32) (.c (.int .i64 1))⟩, ⟨some 32, none, .mv (.t 50)⟩]))))))) (.seq (.reg [⟨some 10, none, .mv (.c (.int .i64 0))⟩]) .ret))))
theorem code_impl_LowBound : HasCode Tryd.prog fn_impl_LowBound mc_impl_LowBound [.t 10] 51 := ⟨mixed, Tryd.f18, _, Tryd.func18, rfl, by kernel_rfl, by kernel_rfl, rfl, by kernel_rfl⟩

def mc_spec_DrawHighBound : MC :=
  .seq (.reg [⟨some 2, none, .mv (.c (.int .i64 0))⟩, ⟨some 3, none, .mv (.c (.int .i64 0))⟩, ⟨some 4, none, .mv (.c (.int .i64 0))⟩, ⟨some 5, none, .mv (.c (.int .i64 0))⟩, ⟨some 6, none, .mv (.c (.int .i64 0))⟩]) (.seq (.reg [⟨some 11, none, .mv (.t 0)⟩, ⟨some 12, none, .call fn_spec_newReader [.t 11]⟩, ⟨some 7, none, .mv (.t 12)⟩]) (.seq (.reg [⟨some 13, none, .mv (.t 7)⟩, ⟨some 14, none, .bsl 8 1 [.int .i64 0] [(0, .c (.int .i64 5)), (1, .c (.int .i64 4)), (2, .c (.int .i64 6)), (3, .c (.int .i64 10)), (4, .c (.int .i64 2)), (5, .c (.int .i64 1)), (6, .c (.int .i64 0)), (7, .c (.int .i64 11))]⟩, ⟨some 15, none, .call fn_spec_reader_one [.t 13, .t 14]⟩, ⟨some 8, none, .mv (.t 15)⟩]) (.seq (.reg [⟨some 17, none, .mv (.t 7)⟩, ⟨some 18, none, .call fn_spec_aLevel [.t 17]⟩, ⟨some 16, none, .mv (.t 18)⟩, ⟨some 19, none, .ext (.t 16) 0⟩, ⟨some 20, none, .ext (.t 16) 1⟩, ⟨some 9, none, .mv (.t 19)⟩, ⟨some 10, none, .mv (.t 20)⟩]) (.seq (.reg [⟨some 21, none, .mv (.t 8)⟩, ⟨some 22, none, .mv (.t 7)⟩, ⟨some 23, none, .mv (.t 7)⟩, ⟨some 24, none, .mv (.t 8)⟩, ⟨some 25, none, .mnmx true (.t 24) [.c (.int .i64 1)]⟩, ⟨some 26, none, .call fn_spec_reader_pick [.t 23, .t 25]⟩, ⟨some 27, none, .mv (.t 7)⟩, ⟨some 28, none, .mv (.t 8)⟩, ⟨some 29, none, .mnmx true (.t 28) [.c (.int .i64 1)]⟩, ⟨some 30, none, .call fn_spec_reader_pick [.t 27, .t 29]⟩, ⟨some 31, none, .mv (.t 8)⟩, ⟨some 32, none, .bsl 5 1 [.int .i64 0] [(0, .t 26), (1, .t 30), (2, .c (.int .i64 0)), (3, .t 31), (4, .c (.int .i64 (-1)))]⟩, ⟨some 33, none, .call fn_spec_reader_one [.t 22, .t 32]⟩, ⟨some 34, none, .mv (.t 7)⟩, ⟨some 35, none, .bsl 6 1 [.int .i64 0] [(0, .c (.int .i64 6)), (1, .c (.int .i64 10)), (2, .c (.int .i64 12)), (3, .c (.int .i64 3)), (4, .c (.int .i64 1)), (5, .c (.int .i64 0))]⟩, ⟨some 36, none, .call fn_spec_reader_one [.t 34, .t 35]⟩, ⟨some 37, none, .mv (.t 9)⟩, ⟨some 38, none, .mv (.t 10)⟩, ⟨some 2, none, .mv (.t 21)⟩, ⟨some 3, none, .mv (.t 33)⟩, ⟨some 4, none, .mv (.t 36)⟩, ⟨some 5, none, .mv (.t 37)⟩, ⟨some 6, none, .mv (.t 38)⟩]) .ret))))
theorem code_spec_DrawHighBound : HasCode Tryd.prog fn_spec_DrawHighBound mc_spec_DrawHighBound [.t 2, .t 3, .t 4, .t 5, .t 6] 39 := ⟨mixed, Tryd.f20, _, Tryd.func20, rfl, by kernel_rfl, by kernel_rfl, rfl, by kernel_rfl⟩

def mc_impl_HighBound : MC :=
  .seq (.reg [⟨some 10, none, .mv (.c (.int .i64 0))⟩]) (.seq (.reg [⟨some 14, none, .mv (.t 3)⟩, ⟨some 15, none, .mv (.t 4)⟩, ⟨some 16, none, .bld [.int .i64 0, .int .i64 0] [(0, 1, .t 14), (1, 1, .t 15)]⟩, ⟨some 11, none, .new [.int .i64 0, .int .i64 0]⟩, ⟨none, none, .st (.t 11) (.t 16) 2⟩]) (.seq (.seq (.reg [⟨some 17, none, .mv (.t 0)⟩, ⟨some 18, none, .mv (.t 2)⟩, ⟨some 19, none, .ld (.t 11) 2 true⟩, ⟨some 20, none, .call fn_impl_validBound [.t 17, .t 18, .t 19]⟩, ⟨some 21, none, .un .not (.t 20)⟩, ⟨some 22, none, .mv (.t 21)⟩, ⟨some 23, some (22, false), .mv (.t 1)⟩, ⟨some 24, some (22, false), .bin .lss (.t 23) (.c (.int .i64 0))⟩, ⟨some 25, none, .pick (.t 22) (.c (.bool true)) (.t 24)⟩, ⟨some 26, none, .mv (.t 25)⟩, ⟨some 27, some (26, false), .mv (.t 1)⟩, ⟨some 28, some (26, false), .mv (.t 0)⟩, ⟨some 29, some (26, false), .bin .geq (.t 27) (.t 28)⟩, ⟨some 30, none, .pick (.t 26) (.c (.bool true)) (.t 29)⟩]) (.cond (.t 30) (.seq (.reg [⟨some 10, none, .mv (.c (.int .i64 (-1)))⟩]) .ret) .skip)) (.seq (.seq (.reg [⟨some 31, none, .mv (.t 2)⟩, ⟨some 32, none, .mv (.c (.int .i64 0))⟩]) (.block 0 (.loop (.seq (.reg [⟨some 33, none, .bin .lss (.t 32) (.t 31)⟩]) (.seq (.cond (.t 33) .skip (.exit 0)) (.seq (.block 1 (.seq (.reg [⟨some 34, none, .mv (.t 32)⟩, ⟨some 12, none, .mv (.t 34)⟩]) (.seq (.reg [⟨some 35, none, .mv (.t 0)⟩, ⟨some 36, none, .mv (.t 12)⟩, ⟨some 37, none, .mv (.t 2)⟩, ⟨some 38, none, .bld [.int .i64 0, .int .i64 0, .int .i64 0] [(0, 1, .t 35), (1, 1, .t 36), (2, 1, .t 37)]⟩, ⟨some 13, none, .new [.int .i64 0, .int .i64 0, .int .i64 0]⟩, ⟨none, none, .st (.t 13) (.t 38) 3⟩]) (.seq (.drq [⟨some 39, none, .ld (.t 11) 2 true⟩, ⟨some 40, none, .ld (.t 13) 3 true⟩, ⟨some 41, none, .mv (.t 1)⟩, ⟨some 42, none, .call fn_impl_tries_atMost [.t 40, .t 41]⟩, ⟨some 43, none, .ld (.t 13) 3 true⟩, ⟨some 44, none, .call fn_impl_tries_all [.t 43]⟩, ⟨some 45, none, .call fn_impl_part_holds [.t 39, .t 42, .t 44]⟩]) (.cond (.t 45) (.seq (.reg [⟨some 46, none, .mv (.t 12)⟩, ⟨some 10, none, .mv (.t 46)⟩]) .ret) .skip))))) (.reg [⟨some 47, none, .bin .add (.t 32) (.c (.int .i64 1))⟩, ⟨some 32, none, .mv (.t 47)⟩]))))))) (.seq (.reg [⟨some 48, none, .mv (.t 2)⟩, ⟨some 10, none, .mv (.t 48)⟩]) .ret))))
theorem code_impl_HighBound : HasCode Tryd.prog fn_impl_HighBound mc_impl_HighBound [.t 10] 49 := ⟨mixed, Tryd.f21, _, Tryd.func21, rfl, by kernel_rfl, by kernel_rfl, rfl, by kernel_rfl⟩

def mc_spec_HighBound : MC :=
  .seq (.reg [⟨some 10, none, .mv (.c (.int .i64 0))⟩]) (.seq (.seq (.reg [⟨some 13, none, .mv (.t 0)⟩, ⟨some 14, none, .mv (.t 2)⟩, ⟨some 15, none, .call fn_spec_validTries [.t 13, .c (.int .i64 0), .t 14]⟩, ⟨some 16, none, .un .not (.t 15)⟩, ⟨some 17, none, .mv (.t 16)⟩, ⟨some 18, some (17, false), .mv (.t 1)⟩, ⟨some 19, some (17, false), .mv (.t 0)⟩, ⟨some 20, some (17, false), .bin .sub (.t 19) (.c (.int .i64 1))⟩, ⟨some 21, some (17, false), .call fn_spec_inRange [.t 18, .c (.int .i64 0), .t 20]⟩, ⟨some 22, some (17, false), .un .not (.t 21)⟩, ⟨some 23, none, .pick (.t 17) (.c (.bool true)) (.t 22)⟩, ⟨some 24, none, .mv (.t 23)⟩, ⟨some 25, some (24, false), .mv (.t 3)⟩, ⟨some 26, some (24, false), .mv (.t 4)⟩, ⟨some 27, some (24, false), .call fn_spec_validLevel [.t 25, .t 26]⟩, ⟨some 28, some (24, false), .un .not (.t 27)⟩, ⟨some 29, none, .pick (.t 24) (.c (.bool true)) (.t 28)⟩]) (.cond (.t 29) (.seq (.reg [⟨some 10, none, .mv (.c (.int .i64 (-1)))⟩]) .ret) .skip)) (.seq (.reg [⟨some 11, none, .mv (.c (.int .i64 0))⟩]) (.block 0 (.loop (.seq (.block 1 (.seq (.reg [⟨some 32, none, .mv (.t 2)⟩, ⟨some 33, none, .mv (.t 0)⟩, ⟨some 34, none, .call fn_spec_raise [.t 32, .t 33]⟩, ⟨some 12, none, .mv (.t 34)⟩]) (.seq (.reg [⟨some 35, none, .mv (.t 12)⟩, ⟨some 36, none, .mv (.t 0)⟩, ⟨some 37, none, .mv (.t 1)⟩, ⟨some 38, none, .bin .add (.t 37) (.c (.int .i64 1))⟩, ⟨some 39, none, .mv (.t 11)⟩, ⟨some 40, none, .mv (.t 2)⟩, ⟨some 41, none, .call fn_spec_tail [.t 36, .t 38, .t 39, .t 40]⟩, ⟨some 42, none, .bin .sub (.t 35) (.t 41)⟩, ⟨some 43, none, .mv (.t 4)⟩, ⟨some 44, none, .bin .mul (.t 42) (.t 43)⟩, ⟨some 45, none, .mv (.t 3)⟩, ⟨some 46, none, .mv (.t 12)⟩, ⟨some 47, none, .bin .mul (.t 45) (.t 46)⟩, ⟨some 48, none, .bin .leq (.t 44) (.t 47)⟩]) (.cond (.t 48) (.seq (.reg [⟨some 49, none, .mv (.t 11)⟩, ⟨some 10, none, .mv (.t 49)⟩]) .ret) .skip)))) (.reg [⟨some 30, none, .mv (.t 11)⟩, ⟨some 31, none, .bin .add (.t 30) (.c (.int .i64 1))⟩, ⟨some 11, none, .mv (.t 31)⟩]))))))
theorem code_spec_HighBound : HasCode Tryd.prog fn_spec_HighBound mc_spec_HighBound [.t 10] 50 := ⟨mixed, Tryd.f22, _, Tryd.func22, rfl, by kernel_rfl, by kernel_rfl, rfl, by kernel_rfl⟩

def mc_spec_newReader : MC :=
  .seq (.reg [⟨some 2, none, .mv (.c .nilPtr)⟩]) (.seq (.seq (.reg [⟨some 3, none, .mv (.t 0)⟩, ⟨some 4, none, .len (.t 3)⟩, ⟨some 5, none, .bin .gtr (.t 4) (.c (.int .i64 2000))⟩]) (.cond (.t 5) (.reg [⟨some 6, none, .mv (.t 0)⟩, ⟨some 7, none, .sl (.t 6) none (some (.c (.int .i64 2000))) none 1⟩, ⟨some 0, none, .mv (.t 7)⟩]) .skip)) (.seq (.reg [⟨some 8, none, .mv (.t 0)⟩, ⟨some 9, none, .bld [.nilSlice, .int .i64 0] [(0, 1, .t 8)]⟩, ⟨some 10, none, .box (.t 9)⟩, ⟨some 2, none, .mv (.t 10)⟩]) .ret))
theorem code_spec_newReader : HasCode Tryd.prog fn_spec_newReader mc_spec_newReader [.t 2] 11 := ⟨mixed, Tryd.f34, _, Tryd.func34, rfl, by kernel_rfl, by kernel_rfl, rfl, by kernel_rfl⟩

def mc_spec_reader_one : MC :=
  .seq (.reg [⟨some 4, none, .mv (.c (.int .i64 0))⟩]) (.seq (.reg [⟨some 5, none, .mv (.t 1)⟩, ⟨some 6, none, .mv (.t 0)⟩, ⟨some 7, none, .mv (.t 1)⟩, ⟨some 8, none, .len (.t 7)⟩, ⟨some 9, none, .call fn_spec_reader_pick [.t 6, .t 8]⟩, ⟨some 10, none, .ixa (.t 5) (.t 9) 1⟩, ⟨some 11, none, .ld (.t 10) 1 false⟩, ⟨some 4, none, .mv (.t 11)⟩]) .ret)
theorem code_spec_reader_one : HasCode Tryd.prog fn_spec_reader_one mc_spec_reader_one [.t 4] 12 := ⟨mixed, Tryd.f35, _, Tryd.func35, rfl, by kernel_rfl, by kernel_rfl, rfl, by kernel_rfl⟩

def mc_spec_reader_pick : MC :=
  .seq (.reg [⟨some 4, none, .mv (.c (.int .i64 0))⟩]) (.seq (.reg [⟨some 7, none, .mv (.t 0)⟩, ⟨some 8, none, .mv (.t 0)⟩, ⟨some 9, none, .nilck (.t 8)⟩, ⟨some 10, none, .fa (.t 9) 1⟩, ⟨some 11, none, .ld (.t 10) 1 false⟩, ⟨some 12, none, .bin .add (.t 11) (.c (.int .i64 1))⟩, ⟨some 13, none, .nilck (.t 7)⟩, ⟨some 14, none, .fa (.t 13) 1⟩, ⟨none, none, .st (.t 14) (.t 12) 1⟩]) (.seq (.seq (.reg [⟨some 15, none, .mv (.t 1)⟩, ⟨some 16, none, .bin .lss (.t 15) (.c (.int .i64 1))⟩, ⟨some 17, none, .mv (.t 16)⟩, ⟨some 18, some (17, false), .mv (.t 0)⟩, ⟨some 19, some (17, false), .nilck (.t 18)⟩, ⟨some 20, some (17, false), .fa (.t 19) 0⟩, ⟨some 21, some (17, false), .ld (.t 20) 1 false⟩, ⟨some 22, some (17, false), .len (.t 21)⟩, ⟨some 23, some (17, false), .bin .eql (.t 22) (.c (.int .i64 0))⟩, ⟨some 24, none, .pick (.t 17) (.c (.bool true)) (.t 23)⟩]) (.cond (.t 24) (.seq (.reg [⟨some 4, none, .mv (.c (.int .i64 0))⟩]) .ret) .skip)) (.seq (.reg [⟨some 25, none, .mv (.t 0)⟩, ⟨some 26, none, .nilck (.t 25)⟩, ⟨some 27, none, .fa (.t 26) 1⟩, ⟨some 28, none, .ld (.t 27) 1 false⟩, ⟨some 29, none, .bin .sub (.t 28) (.c (.int .i64 1))⟩, ⟨some 5, none, .mv (.t 29)⟩]) (.seq (.seq (.reg [⟨some 30, none, .mv (.t 5)⟩, ⟨some 31, none, .mv (.t 0)⟩, ⟨some 32, none, .nilck (.t 31)⟩, ⟨some 33, none, .fa (.t 32) 0⟩, ⟨some 34, none, .ld (.t 33) 1 false⟩, ⟨some 35, none, .len (.t 34)⟩, ⟨some 36, none, .bin .lss (.t 30) (.t 35)⟩]) (.cond (.t 36) (.seq (.reg [⟨some 37, none, .mv (.t 0)⟩, ⟨some 38, none, .nilck (.t 37)⟩, ⟨some 39, none, .fa (.t 38) 0⟩, ⟨some 40, none, .ld (.t 39) 1 false⟩, ⟨some 41, none, .mv (.t 5)⟩, ⟨some 42, none, .ixa (.t 40) (.t 41) 1⟩, ⟨some 43, none, .ld (.t 42) 1 false⟩, ⟨some 44, none, .conv .i64 (.t 43)⟩, ⟨some 45, none, .mv (.t 1)⟩, ⟨some 46, none, .bin .rem (.t 44) (.t 45)⟩, ⟨some 4, none, .mv (.t 46)⟩]) .ret) .skip)) (.seq (.drq [⟨some 47, none, .mv (.t 0)⟩, ⟨some 48, none, .nilck (.t 47)⟩, ⟨some 49, none, .fa (.t 48) 0⟩, ⟨some 50, none, .ld (.t 49) 1 false⟩, ⟨some 51, none, .mv (.t 5)⟩, ⟨some 52, none, .mv (.t 0)⟩, ⟨some 53, none, .nilck (.t 52)⟩, ⟨some 54, none, .fa (.t 53) 0⟩, ⟨some 55, none, .ld (.t 54) 1 false⟩, ⟨some 56, none, .len (.t 55)⟩, ⟨some 57, none, .bin .rem (.t 51) (.t 56)⟩, ⟨some 58, none, .ixa (.t 50) (.t 57) 1⟩, ⟨some 59, none, .ld (.t 58) 1 false⟩, ⟨some 60, none, .conv .i64 (.t 59)⟩, ⟨some 61, none, .bin .mul (.t 60) (.c (.int .i64 131))⟩, ⟨some 62, none, .mv (.t 0)⟩, ⟨some 63, none, .nilck (.t 62)⟩, ⟨some 64, none, .fa (.t 63) 0⟩, ⟨some 65, none, .ld (.t 64) 1 false⟩, ⟨some 66, none, .mv (.t 5)⟩, ⟨some 67, none, .bin .mul (.t 66) (.c (.int .i64 7))⟩, ⟨some 68, none, .bin .add (.t 67) (.c (.int .i64 3))⟩, ⟨some 69, none, .mv (.t 0)⟩, ⟨some 70, none, .nilck (.t 69)⟩, ⟨some 71, none, .fa (.t 70) 0⟩, ⟨some 72, none, .ld (.t 71) 1 false⟩, ⟨some 73, none, .len (.t 72)⟩, ⟨some 74, none, .bin .rem (.t 68) (.t 73)⟩, ⟨some 75, none, .ixa (.t 65) (.t 74) 1⟩, ⟨some 76, none, .ld (.t 75) 1 false⟩, ⟨some 77, none, .conv .i64 (.t 76)⟩, ⟨some 78, none, .bin .mul (.t 77) (.c (.int .i64 1117))⟩, ⟨some 79, none, .bin .add (.t 61) (.t 78)⟩, ⟨some 80, none, .mv (.t 5)⟩, ⟨some 81, none, .bin .mul (.t 80) (.c (.int .i64 29))⟩, ⟨some 82, none, .bin .add (.t 79) (.t 81)⟩, ⟨some 83, none, .mv (.t 5)⟩, ⟨some 84, none, .mv (.t 0)⟩, ⟨some 85, none, .nilck (.t 84)⟩, ⟨some 86, none, .fa (.t 85) 0⟩, ⟨some 87, none, .ld (.t 86) 1 false⟩, ⟨some 88, none, .len (.t 87)⟩, ⟨some 89, none, .bin .quo (.t 83) (.t 88)⟩, ⟨some 90, none, .bin .mul (.t 89) (.c (.int .i64 53))⟩, ⟨some 91, none, .bin .add (.t 82) (.t 90)⟩, ⟨some 6, none, .mv (.t 91)⟩]) (.seq (.reg [⟨some 92, none, .mv (.t 6)⟩, ⟨some 93, none, .mv (.t 6)⟩, ⟨some 94, none, .bin .quo (.t 93) (.c (.int .i64 64))⟩, ⟨some 95, none, .bin .xor (.t 92) (.t 94)⟩, ⟨some 6, none, .mv (.t 95)⟩]) (.seq (.reg [⟨some 96, none, .mv (.t 6)⟩, ⟨some 97, none, .mv (.t 1)⟩, ⟨some 98, none, .bin .rem (.t 96) (.t 97)⟩, ⟨some 4, none, .mv (.t 98)⟩]) .ret)))))))
theorem code_spec_reader_pick : HasCode Tryd.prog fn_spec_reader_pick mc_spec_reader_pick [.t 4] 99 := ⟨mixed, Tryd.f36, _, Tryd.func36, rfl, by kernel_rfl, by kernel_rfl, rfl, by kernel_rfl⟩

def mc_impl_tries_valid : MC :=
  .seq (.reg [⟨some 1, none, .box (.t 0)⟩, ⟨some 2, none, .mv (.c (.bool false))⟩]) (.seq (.reg [⟨some 3, none, .fa (.t 1) 0⟩, ⟨some 4, none, .ld (.t 3) 1 false⟩, ⟨some 5, none, .bin .geq (.t 4) (.c (.int .i64 0))⟩, ⟨some 6, none, .mv (.t 5)⟩, ⟨some 7, some (6, true), .fa (.t 1) 0⟩, ⟨some 8, some (6, true), .ld (.t 7) 1 false⟩, ⟨some 9, some (6, true), .bin .leq (.t 8) (.c (.int .i64 10))⟩, ⟨some 10, none, .pick (.t 6) (.t 9) (.c (.bool false))⟩, ⟨some 11, none, .mv (.t 10)⟩, ⟨some 12, some (11, true), .fa (.t 1) 2⟩, ⟨some 13, some (11, true), .ld (.t 12) 1 false⟩, ⟨some 14, some (11, true), .bin .geq (.t 13) (.c (.int .i64 1))⟩, ⟨some 15, none, .pick (.t 11) (.t 14) (.c (.bool false))⟩, ⟨some 16, none, .mv (.t 15)⟩, ⟨some 17, some (16, true), .fa (.t 1) 2⟩, ⟨some 18, some (16, true), .ld (.t 17) 1 false⟩, ⟨some 19, some (16, true), .bin .leq (.t 18) (.c (.int .i64 12))⟩, ⟨some 20, none, .pick (.t 16) (.t 19) (.c (.bool false))⟩, ⟨some 21, none, .mv (.t 20)⟩, ⟨some 22, some (21, true), .fa (.t 1) 1⟩, ⟨some 23, some (21, true), .ld (.t 22) 1 false⟩, ⟨some 24, some (21, true), .bin .geq (.t 23) (.c (.int .i64 0))⟩, ⟨some 25, none, .pick (.t 21) (.t 24) (.c (.bool false))⟩, ⟨some 26, none, .mv (.t 25)⟩, ⟨some 27, some (26, true), .fa (.t 1) 1⟩, ⟨some 28, some (26, true), .ld (.t 27) 1 false⟩, ⟨some 29, some (26, true), .fa (.t 1) 2⟩, ⟨some 30, some (26, true), .ld (.t 29) 1 false⟩, ⟨some 31, some (26, true), .bin .leq (.t 28) (.t 30)⟩, ⟨some 32, none, .pick (.t 26) (.t 31) (.c (.bool false))⟩, ⟨some 2, none, .mv (.t 32)⟩]) .ret)
theorem code_impl_tries_valid : HasCode Tryd.prog fn_impl_tries_valid mc_impl_tries_valid [.t 2] 33 := ⟨mixed, Tryd.f37, _, Tryd.func37, rfl, by kernel_rfl, by kernel_rfl, rfl, by kernel_rfl⟩

def mc_impl_tries_atLeast : MC :=
  .seq (.reg [⟨some 2, none, .box (.t 0)⟩, ⟨some 3, none, .box (.t 1)⟩, ⟨some 4, none, .mv (.c (.int .i64 0))⟩]) (.seq (.reg [⟨some 5, none, .ld (.t 2) 3 true⟩, ⟨some 6, none, .mkf fn_impl_tries_atLeast_1 [.t 3]⟩, ⟨some 7, none, .call fn_impl_tries_waysOf [.t 5, .t 6]⟩, ⟨some 4, none, .mv (.t 7)⟩]) .ret)
theorem code_impl_tries_atLeast : HasCode Tryd.prog fn_impl_tries_atLeast mc_impl_tries_atLeast [.t 4] 8 := ⟨mixed, Tryd.f38, _, Tryd.func38, rfl, by kernel_rfl, by kernel_rfl, rfl, by kernel_rfl⟩

def mc_impl_tries_all : MC :=
  .seq (.reg [⟨some 1, none, .box (.t 0)⟩, ⟨some 2, none, .mv (.c (.int .i64 0))⟩]) (.seq (.reg [⟨some 3, none, .fa (.t 1) 2⟩, ⟨some 4, none, .ld (.t 3) 1 false⟩, ⟨some 5, none, .fa (.t 1) 0⟩, ⟨some 6, none, .ld (.t 5) 1 false⟩, ⟨some 7, none, .call fn_impl_power [.t 4, .t 6]⟩, ⟨some 2, none, .mv (.t 7)⟩]) .ret)
theorem code_impl_tries_all : HasCode Tryd.prog fn_impl_tries_all mc_impl_tries_all [.t 2] 8 := ⟨mixed, Tryd.f39, _, Tryd.func39, rfl, by kernel_rfl, by kernel_rfl, rfl, by kernel_rfl⟩

def mc_spec_validTries : MC :=
  .seq (.reg [⟨some 6, none, .mv (.c (.bool false))⟩]) (.seq (.reg [⟨some 7, none, .mv (.t 0)⟩, ⟨some 8, none, .call fn_spec_inRange [.t 7, .c (.int .i64 0), .c (.int .i64 10)]⟩, ⟨some 9, none, .mv (.t 8)⟩, ⟨some 10, some (9, true), .mv (.t 2)⟩, ⟨some 11, some (9, true), .call fn_spec_inRange [.t 10, .c (.int .i64 1), .c (.int .i64 12)]⟩, ⟨some 12, none, .pick (.t 9) (.t 11) (.c (.bool false))⟩, ⟨some 13, none, .mv (.t 12)⟩, ⟨some 14, some (13, true), .mv (.t 1)⟩, ⟨some 15, some (13, true), .mv (.t 2)⟩, ⟨some 16, some (13, true), .call fn_spec_inRange [.t 14, .c (.int .i64 0), .t 15]⟩, ⟨some 17, none, .pick (.t 13) (.t 16) (.c (.bool false))⟩, ⟨some 6, none, .mv (.t 17)⟩]) .ret)
theorem code_spec_validTries : HasCode Tryd.prog fn_spec_validTries mc_spec_validTries [.t 6] 18 := ⟨mixed, Tryd.f40, _, Tryd.func40, rfl, by kernel_rfl, by kernel_rfl, rfl, by kernel_rfl⟩

def mc_spec_tail : MC :=
  .seq (.reg [⟨some 8, none, .mv (.c (.int .i64 0))⟩]) (.seq (.reg [⟨some 9, none, .mv (.c (.int .i64 0))⟩]) (.seq (.seq (.reg [⟨some 11, none, .mv (.t 1)⟩, ⟨some 12, none, .mnmx true (.t 11) [.c (.int .i64 0)]⟩, ⟨some 10, none, .mv (.t 12)⟩]) (.block 0 (.loop (.seq (.seq (.reg [⟨some 13, none, .mv (.t 10)⟩, ⟨some 14, none, .mv (.t 0)⟩, ⟨some 15, none, .bin .leq (.t 13) (.t 14)⟩]) (.cond (.t 15) .skip (.exit 0))) (.seq (.block 1 (.reg [⟨some 18, none, .mv (.t 9)⟩, ⟨some 19, none, .mv (.t 0)⟩, ⟨some 20, none, .mv (.t 10)⟩, ⟨some 21, none, .mv (.t 2)⟩, ⟨some 22, none, .mv (.t 3)⟩, ⟨some 23, none, .call fn_spec_term [.t 19, .t 20, .t 21, .t 22]⟩, ⟨some 24, none, .bin .add (.t 18) (.t 23)⟩, ⟨some 9, none, .mv (.t 24)⟩])) (.reg [⟨some 16, none, .mv (.t 10)⟩, ⟨some 17, none, .bin .add (.t 16) (.c (.int .i64 1))⟩, ⟨some 10, none, .mv (.t 17)⟩])))))) (.seq (.reg [⟨some 25, none, .mv (.t 9)⟩, ⟨some 8, none, .mv (.t 25)⟩]) .ret)))
theorem code_spec_tail : HasCode Tryd.prog fn_spec_tail mc_spec_tail [.t 8] 26 := ⟨mixed, Tryd.f41, _, Tryd.func41, rfl, by kernel_rfl, by kernel_rfl, rfl, by kernel_rfl⟩

def mc_spec_raise : MC :=
  .seq (.reg [⟨some 4, none, .mv (.c (.int .i64 0))⟩]) (.seq (.reg [⟨some 5, none, .mv (.c (.int .i64 1))⟩]) (.seq (.block 0 (.loop (.seq (.seq (.reg [⟨some 6, none, .mv (.t 1)⟩, ⟨some 7, none, .bin .gtr (.t 6) (.c (.int .i64 0))⟩]) (.cond (.t 7) .skip (.exit 0))) (.seq (.block 1 (.reg [⟨some 10, none, .mv (.t 5)⟩, ⟨some 11, none, .mv (.t 0)⟩, ⟨some 12, none, .bin .mul (.t 10) (.t 11)⟩, ⟨some 5, none, .mv (.t 12)⟩])) (.reg [⟨some 8, none, .mv (.t 1)⟩, ⟨some 9, none, .bin .sub (.t 8) (.c (.int .i64 1))⟩, ⟨some 1, none, .mv (.t 9)⟩]))))) (.seq (.reg [⟨some 13, none, .mv (.t 5)⟩, ⟨some 4, none, .mv (.t 13)⟩]) .ret)))
theorem code_spec_raise : HasCode Tryd.prog fn_spec_raise mc_spec_raise [.t 4] 14 := ⟨mixed, Tryd.f42, _, Tryd.func42, rfl, by kernel_rfl, by kernel_rfl, rfl, by kernel_rfl⟩

def mc_spec_aLevel : MC :=
  .seq (.reg [⟨some 2, none, .mv (.c (.int .i64 0))⟩, ⟨some 3, none, .mv (.c (.int .i64 0))⟩]) (.seq (.reg [⟨some 5, none, .mv (.t 0)⟩, ⟨some 6, none, .bsl 7 1 [.int .i64 0] [(0, .c (.int .i64 100)), (1, .c (.int .i64 20)), (2, .c (.int .i64 10)), (3, .c (.int .i64 2)), (4, .c (.int .i64 1)), (5, .c (.int .i64 0)), (6, .c (.int .i64 101))]⟩, ⟨some 7, none, .call fn_spec_reader_one [.t 5, .t 6]⟩, ⟨some 4, none, .mv (.t 7)⟩]) (.seq (.reg [⟨some 8, none, .mv (.t 0)⟩, ⟨some 9, none, .mv (.t 0)⟩, ⟨some 10, none, .mv (.t 4)⟩, ⟨some 11, none, .mnmx true (.t 10) [.c (.int .i64 0)]⟩, ⟨some 12, none, .bin .add (.t 11) (.c (.int .i64 1))⟩, ⟨some 13, none, .call fn_spec_reader_pick [.t 9, .t 12]⟩, ⟨some 14, none, .mv (.t 4)⟩, ⟨some 15, none, .mv (.t 4)⟩, ⟨some 16, none, .bin .add (.t 15) (.c (.int .i64 1))⟩, ⟨some 17, none, .bsl 7 1 [.int .i64 0] [(0, .c (.int .i64 5)), (1, .c (.int .i64 1)), (2, .c (.int .i64 10)), (3, .c (.int .i64 0)), (4, .t 13), (5, .t 14), (6, .t 16)]⟩, ⟨some 18, none, .call fn_spec_reader_one [.t 8, .t 17]⟩, ⟨some 19, none, .mv (.t 4)⟩, ⟨some 2, none, .mv (.t 18)⟩, ⟨some 3, none, .mv (.t 19)⟩]) .ret))
theorem code_spec_aLevel : HasCode Tryd.prog fn_spec_aLevel mc_spec_aLevel [.t 2, .t 3] 20 := ⟨mixed, Tryd.f43, _, Tryd.func43, rfl, by kernel_rfl, by kernel_rfl, rfl, by kernel_rfl⟩

def mc_impl_validBound : MC :=
  .seq (.reg [⟨some 5, none, .box (.t 2)⟩, ⟨some 6, none, .mv (.c (.bool false))⟩]) (.seq (.reg [⟨some 7, none, .mv (.t 0)⟩, ⟨some 8, none, .bin .geq (.t 7) (.c (.int .i64 1))⟩, ⟨some 9, none, .mv (.t 8)⟩, ⟨some 10, some (9, true), .mv (.t 0)⟩, ⟨some 11, some (9, true), .mv (.t 1)⟩, ⟨some 12, some (9, true), .bld [.int .i64 0, .int .i64 0, .int .i64 0] [(0, 1, .t 10), (2, 1, .t 11)]⟩, ⟨some 13, some (9, true), .call fn_impl_tries_valid [.t 12]⟩, ⟨some 14, none, .pick (.t 9) (.t 13) (.c (.bool false))⟩, ⟨some 15, none, .mv (.t 14)⟩, ⟨some 16, some (15, true), .ld (.t 5) 2 true⟩, ⟨some 17, some (15, true), .call fn_impl_part_valid [.t 16]⟩, ⟨some 18, none, .pick (.t 15) (.t 17) (.c (.bool false))⟩, ⟨some 6, none, .mv (.t 18)⟩]) .ret)
theorem code_impl_validBound : HasCode Tryd.prog fn_impl_validBound mc_impl_validBound [.t 6] 19 := ⟨mixed, Tryd.f44, _, Tryd.func44, rfl, by kernel_rfl, by kernel_rfl, rfl, by kernel_rfl⟩

def mc_impl_part_holds : MC :=
  .seq (.reg [⟨some 3, none, .box (.t 0)⟩, ⟨some 6, none, .mv (.c (.bool false))⟩]) (.seq (.reg [⟨some 7, none, .mv (.t 1)⟩, ⟨some 8, none, .fa (.t 3) 1⟩, ⟨some 9, none, .ld (.t 8) 1 false⟩, ⟨some 10, none, .bin .mul (.t 7) (.t 9)⟩, ⟨some 11, none, .fa (.t 3) 0⟩, ⟨some 12, none, .ld (.t 11) 1 false⟩, ⟨some 13, none, .mv (.t 2)⟩, ⟨some 14, none, .bin .mul (.t 12) (.t 13)⟩, ⟨some 15, none, .bin .leq (.t 10) (.t 14)⟩, ⟨some 6, none, .mv (.t 15)⟩]) .ret)
theorem code_impl_part_holds : HasCode Tryd.prog fn_impl_part_holds mc_impl_part_holds [.t 6] 16 := ⟨mixed, Tryd.f45, _, Tryd.func45, rfl, by kernel_rfl, by kernel_rfl, rfl, by kernel_rfl⟩

def mc_spec_inRange : MC :=
  .seq (.reg [⟨some 6, none, .mv (.c (.bool false))⟩]) (.seq (.reg [⟨some 7, none, .mv (.t 1)⟩, ⟨some 8, none, .mv (.t 0)⟩, ⟨some 9, none, .bin .leq (.t 7) (.t 8)⟩, ⟨some 10, none, .mv (.t 9)⟩, ⟨some 11, some (10, true), .mv (.t 0)⟩, ⟨some 12, some (10, true), .mv (.t 2)⟩, ⟨some 13, some (10, true), .bin .leq (.t 11) (.t 12)⟩, ⟨some 14, none, .pick (.t 10) (.t 13) (.c (.bool false))⟩, ⟨some 6, none, .mv (.t 14)⟩]) .ret)
theorem code_spec_inRange : HasCode Tryd.prog fn_spec_inRange mc_spec_inRange [.t 6] 15 := ⟨mixed, Tryd.f46, _, Tryd.func46, rfl, by kernel_rfl, by kernel_rfl, rfl, by kernel_rfl⟩

def mc_spec_validLevel : MC :=
  .seq (.reg [⟨some 4, none, .mv (.c (.bool false))⟩]) (.seq (.reg [⟨some 5, none, .mv (.t 1)⟩, ⟨some 6, none, .call fn_spec_inRange [.t 5, .c (.int .i64 1), .c (.int .i64 100)]⟩, ⟨some 7, none, .mv (.t 6)⟩, ⟨some 8, some (7, true), .mv (.t 0)⟩, ⟨some 9, some (7, true), .mv (.t 1)⟩, ⟨some 10, some (7, true), .call fn_spec_inRange [.t 8, .c (.int .i64 0), .t 9]⟩, ⟨some 11, none, .pick (.t 7) (.t 10) (.c (.bool false))⟩, ⟨some 4, none, .mv (.t 11)⟩]) .ret)
theorem code_spec_validLevel : HasCode Tryd.prog fn_spec_validLevel mc_spec_validLevel [.t 4] 12 := ⟨mixed, Tryd.f47, _, Tryd.func47, rfl, by kernel_rfl, by kernel_rfl, rfl, by kernel_rfl⟩

def mc_impl_tries_atMost : MC :=
  .seq (.reg [⟨some 2, none, .box (.t 0)⟩, ⟨some 3, none, .box (.t 1)⟩, ⟨some 4, none, .mv (.c (.int .i64 0))⟩]) (.seq (.reg [⟨some 5, none, .ld (.t 2) 3 true⟩, ⟨some 6, none, .mkf fn_impl_tries_atMost_1 [.t 3]⟩, ⟨some 7, none, .call fn_impl_tries_waysOf [.t 5, .t 6]⟩, ⟨some 4, none, .mv (.t 7)⟩]) .ret)
theorem code_impl_tries_atMost : HasCode Tryd.prog fn_impl_tries_atMost mc_impl_tries_atMost [.t 4] 8 := ⟨mixed, Tryd.f48, _, Tryd.func48, rfl, by kernel_rfl, by kernel_rfl, rfl, by kernel_rfl⟩

def mc_impl_tries_waysOf : MC :=
  .seq (.reg [⟨some 2, none, .box (.t 0)⟩, ⟨some 4, none, .mv (.c (.int .i64 0))⟩]) (.seq (.reg [⟨some 5, none, .mv (.c (.int .i64 0))⟩]) (.seq (.seq (.reg [⟨some 7, none, .fa (.t 2) 0⟩, ⟨some 8, none, .ld (.t 7) 1 false⟩, ⟨some 9, none, .bin .add (.t 8) (.c (.int .i64 1))⟩, ⟨some 10, none, .mv (.c (.int .i64 0))⟩]) (.block 0 (.loop (.seq (.reg [⟨some 11, none, .bin .lss (.t 10) (.t 9)⟩]) (.seq (.cond (.t 11) .skip (.exit 0)) (.seq (.block 1 (.seq (.reg [⟨some 12, none, .mv (.t 10)⟩, ⟨some 6, none, .mv (.t 12)⟩]) (.seq (.reg [⟨some 13, none, .mv (.t 1)⟩, ⟨some 14, none, .mv (.t 6)⟩, ⟨some 15, none, .callv (.t 13) [.t 14]⟩]) (.cond (.t 15) (.reg [⟨some 16, none, .mv (.t 5)⟩, ⟨some 17, none, .ld (.t 2) 3 true⟩, ⟨some 18, none, .mv (.t 6)⟩, ⟨some 19, none, .call fn_impl_tries_ways [.t 17, .t 18]⟩, ⟨some 20, none, .bin .add (.t 16) (.t 19)⟩, ⟨some 5, none, .mv (.t 20)⟩]) .skip)))) (.reg [⟨some 21, none, .bin .add (.t 10) (.c (.int .i64 1))⟩, ⟨some 10, none, .mv (.t 21)⟩]))))))) (.seq (.reg [⟨some 22, none, .mv (.t 5)⟩, ⟨some 4, none, .mv (.t 22)⟩]) .ret)))
theorem code_impl_tries_waysOf : HasCode Tryd.prog fn_impl_tries_waysOf mc_impl_tries_waysOf [.t 4] 23 := ⟨mixed, Tryd.f49, _, Tryd.func49, rfl, by kernel_rfl, by kernel_rfl, rfl, by kernel_rfl⟩

def mc_impl_tries_ways : MC :=
  .seq (.reg [⟨some 2, none, .box (.t 0)⟩, ⟨some 4, none, .mv (.c (.int .i64 0))⟩]) (.seq (.drq [⟨some 5, none, .fa (.t 2) 0⟩, ⟨some 6, none, .ld (.t 5) 1 false⟩, ⟨some 7, none, .mv (.t 1)⟩, ⟨some 8, none, .arra (.c (.gl gl_impl_setCounts 0)) (.t 6) 11 11⟩, ⟨some 9, none, .arra (.t 8) (.t 7) 11 1⟩, ⟨some 10, none, .ld (.t 9) 1 false⟩, ⟨some 11, none, .fa (.t 2) 1⟩, ⟨some 12, none, .ld (.t 11) 1 false⟩, ⟨some 13, none, .mv (.t 1)⟩, ⟨some 14, none, .call fn_impl_power [.t 12, .t 13]⟩, ⟨some 15, none, .bin .mul (.t 10) (.t 14)⟩, ⟨some 16, none, .fa (.t 2) 2⟩, ⟨some 17, none, .ld (.t 16) 1 false⟩, ⟨some 18, none, .fa (.t 2) 1⟩, ⟨some 19, none, .ld (.t 18) 1 false⟩, ⟨some 20, none, .bin .sub (.t 17) (.t 19)⟩, ⟨some 21, none, .fa (.t 2) 0⟩, ⟨some 22, none, .ld (.t 21) 1 false⟩, ⟨some 23, none, .mv (.t 1)⟩, ⟨some 24, none, .bin .sub (.t 22) (.t 23)⟩, ⟨some 25, none, .call fn_impl_power [.t 20, .t 24]⟩, ⟨some 26, none, .bin .mul (.t 15) (.t 25)⟩, ⟨some 4, none, .mv (.t 26)⟩]) .ret)
theorem code_impl_tries_ways : HasCode Tryd.prog fn_impl_tries_ways mc_impl_tries_ways [.t 4] 27 := ⟨mixed, Tryd.f51, _, Tryd.func51, rfl, by kernel_rfl, by kernel_rfl, rfl, by kernel_rfl⟩

def mc_spec_term : MC :=
  .seq (.reg [⟨some 8, none, .mv (.c (.int .i64 0))⟩]) (.seq (.reg [⟨some 9, none, .mv (.t 0)⟩, ⟨some 10, none, .mv (.t 1)⟩, ⟨some 11, none, .call fn_spec_choose [.t 9, .t 10]⟩, ⟨some 12, none, .mv (.t 2)⟩, ⟨some 13, none, .mv (.t 1)⟩, ⟨some 14, none, .call fn_spec_raise [.t 12, .t 13]⟩, ⟨some 15, none, .bin .mul (.t 11) (.t 14)⟩, ⟨some 16, none, .mv (.t 3)⟩, ⟨some 17, none, .mv (.t 2)⟩, ⟨some 18, none, .bin .sub (.t 16) (.t 17)⟩, ⟨some 19, none, .mv (.t 0)⟩, ⟨some 20, none, .mv (.t 1)⟩, ⟨some 21, none, .bin .sub (.t 19) (.t 20)⟩, ⟨some 22, none, .call fn_spec_raise [.t 18, .t 21]⟩, ⟨some 23, none, .bin .mul (.t 15) (.t 22)⟩, ⟨some 8, none, .mv (.t 23)⟩]) .ret)
theorem code_spec_term : HasCode Tryd.prog fn_spec_term mc_spec_term [.t 8] 24 := ⟨mixed, Tryd.f54, _, Tryd.func54, rfl, by kernel_rfl, by kernel_rfl, rfl, by kernel_rfl⟩

def mc_impl_part_valid : MC :=
  .seq (.reg [⟨some 1, none, .box (.t 0)⟩, ⟨some 2, none, .mv (.c (.bool false))⟩]) (.seq (.reg [⟨some 3, none, .fa (.t 1) 1⟩, ⟨some 4, none, .ld (.t 3) 1 false⟩, ⟨some 5, none, .bin .geq (.t 4) (.c (.int .i64 1))⟩, ⟨some 6, none, .mv (.t 5)⟩, ⟨some 7, some (6, true), .fa (.t 1) 1⟩, ⟨some 8, some (6, true), .ld (.t 7) 1 false⟩, ⟨some 9, some (6, true), .bin .leq (.t 8) (.c (.int .i64 100))⟩, ⟨some 10, none, .pick (.t 6) (.t 9) (.c (.bool false))⟩, ⟨some 11, none, .mv (.t 10)⟩, ⟨some 12, some (11, true), .fa (.t 1) 0⟩, ⟨some 13, some (11, true), .ld (.t 12) 1 false⟩, ⟨some 14, some (11, true), .bin .geq (.t 13) (.c (.int .i64 0))⟩, ⟨some 15, none, .pick (.t 11) (.t 14) (.c (.bool false))⟩, ⟨some 16, none, .mv (.t 15)⟩, ⟨some 17, some (16, true), .fa (.t 1) 0⟩, ⟨some 18, some (16, true), .ld (.t 17) 1 false⟩, ⟨some 19, some (16, true), .fa (.t 1) 1⟩, ⟨some 20, some (16, true), .ld (.t 19) 1 false⟩, ⟨some 21, some (16, true), .bin .leq (.t 18) (.t 20)⟩, ⟨some 22, none, .pick (.t 16) (.t 21) (.c (.bool false))⟩, ⟨some 2, none, .mv (.t 22)⟩]) .ret)
theorem code_impl_part_valid : HasCode Tryd.prog fn_impl_part_valid mc_impl_part_valid [.t 2] 23 := ⟨mixed, Tryd.f55, _, Tryd.func55, rfl, by kernel_rfl, by kernel_rfl, rfl, by kernel_rfl⟩

def mc_impl_power : MC :=
  .seq (.reg [⟨some 4, none, .mv (.c (.int .i64 0))⟩]) (.seq (.reg [⟨some 5, none, .mv (.c (.int .i64 1))⟩]) (.seq (.seq (.reg [⟨some 6, none, .mv (.t 1)⟩, ⟨some 7, none, .mv (.c (.int .i64 0))⟩]) (.block 0 (.loop (.seq (.reg [⟨some 8, none, .bin .lss (.t 7) (.t 6)⟩]) (.seq (.cond (.t 8) .skip (.exit 0)) (.seq (.block 1 (.reg [⟨some 9, none, .mv (.t 5)⟩, ⟨some 10, none, .mv (.t 0)⟩, ⟨some 11, none, .bin .mul (.t 9) (.t 10)⟩, ⟨some 5, none, .mv (.t 11)⟩])) (.reg [⟨some 12, none, .bin .add (.t 7) (.c (.int .i64 1))⟩, ⟨some 7, none, .mv (.t 12)⟩]))))))) (.seq (.reg [⟨some 13, none, .mv (.t 5)⟩, ⟨some 4, none, .mv (.t 13)⟩]) .ret)))
theorem code_impl_power : HasCode Tryd.prog fn_impl_power mc_impl_power [.t 4] 14 := ⟨mixed, Tryd.f56, _, Tryd.func56, rfl, by kernel_rfl, by kernel_rfl, rfl, by kernel_rfl⟩

def mc_spec_choose : MC :=
  .seq (.reg [⟨some 4, none, .mv (.c (.int .i64 0))⟩]) (.seq (.seq (.reg [⟨some 7, none, .mv (.t 1)⟩, ⟨some 8, none, .bin .lss (.t 7) (.c (.int .i64 0))⟩, ⟨some 9, none, .mv (.t 8)⟩, ⟨some 10, some (9, false), .mv (.t 1)⟩, ⟨some 11, some (9, false), .mv (.t 0)⟩, ⟨some 12, some (9, false), .bin .gtr (.t 10) (.t 11)⟩, ⟨some 13, none, .pick (.t 9) (.c (.bool true)) (.t 12)⟩]) (.cond (.t 13) (.seq (.reg [⟨some 4, none, .mv (.c (.int .i64 0))⟩]) .ret) .skip)) (.seq (.reg [⟨some 5, none, .mv (.c (.int .i64 1))⟩]) (.seq (.seq (.reg [⟨some 6, none, .mv (.c (.int .i64 0))⟩]) (.block 0 (.loop (.seq (.seq (.reg [⟨some 14, none, .mv (.t 6)⟩, ⟨some 15, none, .mv (.t 1)⟩, ⟨some 16, none, .bin .lss (.t 14) (.t 15)⟩]) (.cond (.t 16) .skip (.exit 0))) (.seq (.block 1 (.reg [⟨some 19, none, .mv (.t 5)⟩, ⟨some 20, none, .mv (.t 0)⟩, ⟨some 21, none, .mv (.t 6)⟩, ⟨some 22, none, .bin .sub (.t 20) (.t 21)⟩, ⟨some 23, none, .bin .mul (.t 19) (.t 22)⟩, ⟨some 24, none, .mv (.t 6)⟩, ⟨some 25, none, .bin .add (.t 24) (.c (.int .i64 1))⟩, ⟨some 26, none, .bin .quo (.t 23) (.t 25)⟩, ⟨some 5, none, .mv (.t 26)⟩])) (.reg [⟨some 17, none, .mv (.t 6)⟩, ⟨some 18, none, .bin .add (.t 17) (.c (.int .i64 1))⟩, ⟨some 6, none, .mv (.t 18)⟩])))))) (.seq (.reg [⟨some 27, none, .mv (.t 5)⟩, ⟨some 4, none, .mv (.t 27)⟩]) .ret))))
theorem code_spec_choose : HasCode Tryd.prog fn_spec_choose mc_spec_choose [.t 4] 28 := ⟨mixed, Tryd.f58, _, Tryd.func58, rfl, by kernel_rfl, by kernel_rfl, rfl, by kernel_rfl⟩

def mc_impl_tries_atLeast_1 : MC :=
  .seq (.reg [⟨some 3, none, .mv (.c (.bool false))⟩]) (.seq (.reg [⟨some 4, none, .mv (.t 0)⟩, ⟨some 5, none, .ld (.t 1) 1 false⟩, ⟨some 6, none, .bin .geq (.t 4) (.t 5)⟩, ⟨some 3, none, .mv (.t 6)⟩]) .ret)
theorem code_impl_tries_atLeast_1 : HasCode Tryd.prog fn_impl_tries_atLeast_1 mc_impl_tries_atLeast_1 [.t 3] 7 := ⟨mixed, Tryd.f59, _, Tryd.func59, rfl, by kernel_rfl, by kernel_rfl, rfl, by kernel_rfl⟩

def mc_impl_tries_atMost_1 : MC :=
  .seq (.reg [⟨some 3, none, .mv (.c (.bool false))⟩]) (.seq (.reg [⟨some 4, none, .mv (.t 0)⟩, ⟨some 5, none, .ld (.t 1) 1 false⟩, ⟨some 6, none, .bin .leq (.t 4) (.t 5)⟩, ⟨some 3, none, .mv (.t 6)⟩]) .ret)
theorem code_impl_tries_atMost_1 : HasCode Tryd.prog fn_impl_tries_atMost_1 mc_impl_tries_atMost_1 [.t 3] 7 := ⟨mixed, Tryd.f60, _, Tryd.func60, rfl, by kernel_rfl, by kernel_rfl, rfl, by kernel_rfl⟩

end Go.Rx.Try
