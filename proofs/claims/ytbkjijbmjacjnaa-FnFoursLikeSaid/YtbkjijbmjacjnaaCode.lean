/-
  The code of each function of the program, taken up. Made by a program.
-/
import Derived.Test.YtbkjijbmjacjnaaProg
import Derived.Test.YtbkjijbmjacjnaaRxI
import Derived.KernelRfl
namespace Go.Rx.Try
open Go.Proofs
set_option maxRecDepth 100000

abbrev fn_laws_FnSplitChance : FuncId := 3
abbrev fn_laws_FnWinCounts : FuncId := 4
abbrev fn_laws_FnRunCount : FuncId := 5
abbrev fn_laws_FnFourWays : FuncId := 6
abbrev fn_laws_FnFoursLike : FuncId := 7
abbrev fn_laws_FnFourChance : FuncId := 8
abbrev fn_laws_FnFourBoth : FuncId := 9
abbrev fn_laws_FnTablesWith : FuncId := 10
abbrev fn_laws_FnChangeChance : FuncId := 11
abbrev fn_laws_FnExactSplitChance : FuncId := 12
abbrev fn_laws_FnExactWinCounts : FuncId := 13
abbrev fn_laws_FnExactRunCount : FuncId := 14
abbrev fn_spec_DrawSplitChance : FuncId := 15
abbrev fn_impl_SplitChance : FuncId := 16
abbrev fn_spec_SplitChance : FuncId := 17
abbrev fn_laws_choose : FuncId := 18
abbrev fn_spec_DrawWinCounts : FuncId := 19
abbrev fn_impl_WinCounts : FuncId := 20
abbrev fn_laws_equalInts : FuncId := 21
abbrev fn_spec_WinCounts : FuncId := 22
abbrev fn_laws_turned : FuncId := 23
abbrev fn_laws_total : FuncId := 24
abbrev fn_spec_DrawRunCount : FuncId := 25
abbrev fn_impl_RunCount : FuncId := 26
abbrev fn_spec_RunCount : FuncId := 27
abbrev fn_spec_DrawFourWays : FuncId := 28
abbrev fn_impl_FourWays : FuncId := 29
abbrev fn_spec_FourWays : FuncId := 30
abbrev fn_spec_DrawFoursLike : FuncId := 31
abbrev fn_impl_FoursLike : FuncId := 32
abbrev fn_spec_FoursLike : FuncId := 33
abbrev fn_laws_isIn : FuncId := 34
abbrev fn_laws_ascends : FuncId := 35
abbrev fn_spec_DrawFourChance : FuncId := 36
abbrev fn_impl_FourChance : FuncId := 37
abbrev fn_spec_FourChance : FuncId := 38
abbrev fn_spec_DrawFourBoth : FuncId := 39
abbrev fn_impl_FourBoth : FuncId := 40
abbrev fn_spec_FourBoth : FuncId := 41
abbrev fn_spec_DrawTablesWith : FuncId := 42
abbrev fn_impl_TablesWith : FuncId := 43
abbrev fn_spec_TablesWith : FuncId := 44
abbrev fn_laws_product : FuncId := 45
abbrev fn_spec_DrawChangeChance : FuncId := 46
abbrev fn_impl_ChangeChance : FuncId := 47
abbrev fn_spec_ChangeChance : FuncId := 48
abbrev fn_laws_raised : FuncId := 49
abbrev fn_laws_toIntS : FuncId := 50
abbrev fn_laws_eqIntS : FuncId := 51
abbrev fn_laws_markIntS : FuncId := 52
abbrev fn_laws_heldIntS : FuncId := 53
abbrev fn_spec_twoSamples : FuncId := 54
abbrev fn_spec_newReader : FuncId := 55
abbrev fn_impl_validSamples : FuncId := 56
abbrev fn_slices_Concat_ints : FuncId := 57
abbrev fn_impl_sumAt : FuncId := 58
abbrev fn_impl_firstPlaces : FuncId := 59
abbrev fn_impl_splits : FuncId := 60
abbrev fn_spec_validSamples : FuncId := 61
abbrev fn_spec_atLeast : FuncId := 62
abbrev fn_spec_sum : FuncId := 63
abbrev fn_spec_choose : FuncId := 64
abbrev fn_spec_reader_one : FuncId := 65
abbrev fn_impl_winsIn : FuncId := 66
abbrev fn_spec_inRange : FuncId := 67
abbrev fn_spec_winCounts : FuncId := 68
abbrev fn_impl_places_has : FuncId := 69
abbrev fn_spec_aFour : FuncId := 70
abbrev fn_impl_Four_valid : FuncId := 71
abbrev fn_impl_Four_ways : FuncId := 72
abbrev fn_impl_choose : FuncId := 73
abbrev fn_spec_validFour : FuncId := 74
abbrev fn_spec_fourWays : FuncId := 75
abbrev fn_impl_Four_alike : FuncId := 76
abbrev fn_spec_whole : FuncId := 77
abbrev fn_spec_shifted : FuncId := 78
abbrev fn_impl_Four_waysAlike : FuncId := 79
abbrev fn_impl_Four_reachedBy : FuncId := 80
abbrev fn_impl_Four_matchedBy : FuncId := 81
abbrev fn_spec_reader_pick : FuncId := 82
abbrev fn_impl_sumOf : FuncId := 83
abbrev fn_impl_sums_fill : FuncId := 84
abbrev fn_spec_validSums : FuncId := 85
abbrev fn_spec_countTables : FuncId := 86
abbrev fn_spec_power : FuncId := 87
abbrev fn_spec_dataOf : FuncId := 88
abbrev fn_impl_ValidData : FuncId := 89
abbrev fn_slices_Grow_ints : FuncId := 90
abbrev fn_impl_splits_1 : FuncId := 91
abbrev fn_math_bits_OnesCount : FuncId := 92
abbrev fn_spec_validData : FuncId := 93
abbrev fn_impl_Four_moved : FuncId := 94
abbrev fn_impl_sums_without : FuncId := 95
abbrev fn_spec_rowsFrom : FuncId := 96
abbrev fn_spec_factorial : FuncId := 97
abbrev fn_math_bits_OnesCount32 : FuncId := 98
abbrev fn_math_bits_OnesCount64 : FuncId := 99
abbrev fn_runtime_boundsError_Error : FuncId := 100
abbrev fn_runtime_boundsError_RuntimeError : FuncId := 101
abbrev fn_runtime_errorString_Error : FuncId := 102
abbrev fn_runtime_errorString_RuntimeError : FuncId := 103
abbrev fn_runtime_plainError_Error : FuncId := 104
abbrev fn_runtime_plainError_RuntimeError : FuncId := 105
abbrev fn_runtime_errorAddressString_Error : FuncId := 106
abbrev fn_runtime_errorAddressString_RuntimeError : FuncId := 107
abbrev fn_runtime_TypeAssertionError_Error : FuncId := 108
abbrev fn_runtime_TypeAssertionError_RuntimeError : FuncId := 109
abbrev fn_runtime_PanicNilError_Error : FuncId := 110
abbrev fn_runtime_PanicNilError_RuntimeError : FuncId := 111
abbrev fn_internal_abi_Type_Align : FuncId := 112
abbrev fn_internal_runtime_maps_unhashableTypeError_Error : FuncId := 113
abbrev fn_internal_runtime_maps_unhashableTypeError_RuntimeError : FuncId := 114
abbrev fn_internal_abi_Kind_String : FuncId := 115
theorem mixed : Try.prog.follows .mixedOrders = true := by kernel_rfl

def mc_laws_FnFoursLike : MC :=
  .seq (.reg [⟨some 2, none, .mv (.c (.bool false))⟩]) (.seq (.seq (.reg [⟨some 5, none, .mv (.t 0)⟩, ⟨some 6, none, .len (.t 5)⟩, ⟨some 7, none, .bin .gtr (.t 6) (.c (.int .i64 1048576))⟩]) (.cond (.t 7) (.seq (.reg [⟨some 2, none, .mv (.c (.bool true))⟩]) .ret) .skip)) (.seq (.reg [⟨some 8, none, .mv (.t 0)⟩, ⟨some 9, none, .call fn_spec_DrawFoursLike [.t 8]⟩, ⟨some 3, none, .new [.int .i64 0, .int .i64 0, .int .i64 0, .int .i64 0]⟩, ⟨none, none, .st (.t 3) (.t 9) 4⟩]) (.seq (.reg [⟨some 10, none, .ld (.t 3) 4 true⟩, ⟨some 11, none, .call fn_impl_FoursLike [.t 10]⟩, ⟨some 4, none, .mv (.t 11)⟩]) (.seq (.seq (.reg [⟨some 12, none, .mv (.t 4)⟩, ⟨some 13, none, .ld (.t 3) 4 true⟩, ⟨some 14, none, .call fn_spec_FoursLike [.t 13]⟩, ⟨some 15, none, .call fn_laws_equalInts [.t 12, .t 14]⟩, ⟨some 16, none, .un .not (.t 15)⟩, ⟨some 17, none, .mv (.t 16)⟩, ⟨some 18, some (17, false), .mv (.t 4)⟩, ⟨some 19, some (17, false), .len (.t 18)⟩, ⟨some 20, some (17, false), .bin .eql (.t 19) (.c (.int .i64 0))⟩, ⟨some 21, none, .pick (.t 17) (.c (.bool true)) (.t 20)⟩]) (.cond (.t 21) (.seq (.reg [⟨some 22, none, .mv (.t 4)⟩, ⟨some 23, none, .ld (.t 3) 4 true⟩, ⟨some 24, none, .call fn_spec_FoursLike [.t 23]⟩, ⟨some 25, none, .call fn_laws_equalInts [.t 22, .t 24]⟩, ⟨some 2, none, .mv (.t 25)⟩]) .ret) .skip)) (.seq (.drq [⟨some 26, none, .mv (.t 4)⟩, ⟨some 27, none, .fa (.t 3) 0⟩, ⟨some 28, none, .ld (.t 27) 1 false⟩, ⟨some 29, none, .call fn_laws_isIn [.t 26, .t 28]⟩, ⟨some 30, none, .mv (.t 29)⟩, ⟨some 31, some (30, true), .mv (.t 4)⟩, ⟨some 32, some (30, true), .mv (.t 4)⟩, ⟨some 33, some (30, true), .len (.t 32)⟩, ⟨some 34, some (30, true), .bin .sub (.t 33) (.c (.int .i64 1))⟩, ⟨some 35, some (30, true), .ixa (.t 31) (.t 34) 1⟩, ⟨some 36, some (30, true), .ld (.t 35) 1 false⟩, ⟨some 37, some (30, true), .mv (.t 4)⟩, ⟨some 38, some (30, true), .ixa (.t 37) (.c (.int .i64 0)) 1⟩, ⟨some 39, some (30, true), .ld (.t 38) 1 false⟩, ⟨some 40, some (30, true), .bin .sub (.t 36) (.t 39)⟩, ⟨some 41, some (30, true), .bin .add (.t 40) (.c (.int .i64 1))⟩, ⟨some 42, some (30, true), .mv (.t 4)⟩, ⟨some 43, some (30, true), .len (.t 42)⟩, ⟨some 44, some (30, true), .bin .eql (.t 41) (.t 43)⟩, ⟨some 45, none, .pick (.t 30) (.t 44) (.c (.bool false))⟩, ⟨some 46, none, .mv (.t 45)⟩, ⟨some 47, some (46, true), .mv (.t 4)⟩, ⟨some 48, some (46, true), .call fn_laws_ascends [.t 47]⟩, ⟨some 49, none, .pick (.t 46) (.t 48) (.c (.bool false))⟩, ⟨some 50, none, .mv (.t 49)⟩, ⟨some 51, some (50, true), .mv (.t 4)⟩, ⟨some 52, some (50, true), .ixa (.t 51) (.c (.int .i64 0)) 1⟩, ⟨some 53, some (50, true), .ld (.t 52) 1 false⟩, ⟨some 54, some (50, true), .fa (.t 3) 0⟩, ⟨some 55, some (50, true), .ld (.t 54) 1 false⟩, ⟨some 56, some (50, true), .fa (.t 3) 3⟩, ⟨some 57, some (50, true), .ld (.t 56) 1 false⟩, ⟨some 58, some (50, true), .bin .sub (.t 55) (.t 57)⟩, ⟨some 59, some (50, true), .mnmx true (.c (.int .i64 0)) [.t 58]⟩, ⟨some 60, some (50, true), .bin .eql (.t 53) (.t 59)⟩, ⟨some 61, none, .pick (.t 50) (.t 60) (.c (.bool false))⟩, ⟨some 2, none, .mv (.t 61)⟩]) .ret)))))
theorem code_laws_FnFoursLike : HasCode Try.prog fn_laws_FnFoursLike mc_laws_FnFoursLike [.t 2] 62 := ⟨mixed, Try.f7, _, Try.func7, rfl, by kernel_rfl, by kernel_rfl, rfl, by kernel_rfl⟩

def mc_laws_equalInts : MC :=
  .seq (.reg [⟨some 4, none, .mv (.c (.bool false))⟩]) (.seq (.seq (.reg [⟨some 6, none, .mv (.t 0)⟩, ⟨some 7, none, .len (.t 6)⟩, ⟨some 8, none, .mv (.t 1)⟩, ⟨some 9, none, .len (.t 8)⟩, ⟨some 10, none, .bin .neq (.t 7) (.t 9)⟩]) (.cond (.t 10) (.seq (.reg [⟨some 4, none, .mv (.c (.bool false))⟩]) .ret) .skip)) (.seq (.seq (.reg [⟨some 5, none, .mv (.c (.int .i64 0))⟩]) (.block 0 (.loop (.seq (.seq (.reg [⟨some 11, none, .mv (.t 5)⟩, ⟨some 12, none, .mv (.t 0)⟩, ⟨some 13, none, .len (.t 12)⟩, ⟨some 14, none, .bin .lss (.t 11) (.t 13)⟩]) (.cond (.t 14) .skip (.exit 0))) (.seq (.block 1 (.seq (.drq [⟨some 17, none, .mv (.t 0)⟩, ⟨some 18, none, .mv (.t 5)⟩, ⟨some 19, none, .ixa (.t 17) (.t 18) 1⟩, ⟨some 20, none, .ld (.t 19) 1 false⟩, ⟨some 21, none, .mv (.t 1)⟩, ⟨some 22, none, .mv (.t 5)⟩, ⟨some 23, none, .ixa (.t 21) (.t 22) 1⟩, ⟨some 24, none, .ld (.t 23) 1 false⟩, ⟨some 25, none, .bin .neq (.t 20) (.t 24)⟩]) (.cond (.t 25) (.seq (.reg [⟨some 4, none, .mv (.c (.bool false))⟩]) .ret) .skip))) (.reg [⟨some 15, none, .mv (.t 5)⟩, ⟨some 16, none, .bin .add (.t 15) (.c (.int .i64 1))⟩, ⟨some 5, none, .mv (.t 16)⟩])))))) (.seq (.reg [⟨some 4, none, .mv (.c (.bool true))⟩]) .ret)))
theorem code_laws_equalInts : HasCode Try.prog fn_laws_equalInts mc_laws_equalInts [.t 4] 26 := ⟨mixed, Try.f21, _, Try.func21, rfl, by kernel_rfl, by kernel_rfl, rfl, by kernel_rfl⟩

def mc_spec_DrawFoursLike : MC :=
  .seq (.reg [⟨some 2, none, .new [.int .i64 0, .int .i64 0, .int .i64 0, .int .i64 0]⟩]) (.seq (.reg [⟨some 3, none, .mv (.t 0)⟩, ⟨some 4, none, .call fn_spec_newReader [.t 3]⟩, ⟨some 5, none, .call fn_spec_aFour [.t 4]⟩, ⟨none, none, .st (.t 2) (.t 5) 4⟩]) .ret)
theorem code_spec_DrawFoursLike : HasCode Try.prog fn_spec_DrawFoursLike mc_spec_DrawFoursLike [.c 2 4 true] 6 := ⟨mixed, Try.f31, _, Try.func31, rfl, by kernel_rfl, by kernel_rfl, rfl, by kernel_rfl⟩

def mc_impl_FoursLike : MC :=
  .seq (.reg [⟨some 1, none, .box (.t 0)⟩, ⟨some 2, none, .mv (.c .nilSlice)⟩]) (.seq (.seq (.reg [⟨some 6, none, .ld (.t 1) 4 true⟩, ⟨some 7, none, .call fn_impl_Four_valid [.t 6]⟩, ⟨some 8, none, .un .not (.t 7)⟩]) (.cond (.t 8) (.seq (.reg [⟨some 2, none, .mv (.c .nilSlice)⟩]) .ret) .skip)) (.seq (.reg [⟨some 3, none, .mv (.c .nilSlice)⟩]) (.seq (.seq (.reg [⟨some 9, none, .ld (.t 1) 4 true⟩, ⟨some 10, none, .call fn_impl_Four_alike [.t 9]⟩, ⟨some 11, none, .len (.t 10)⟩, ⟨some 12, none, .mv (.c (.int .i64 0))⟩]) (.block 0 (.loop (.seq (.reg [⟨some 13, none, .bin .lss (.t 12) (.t 11)⟩]) (.seq (.cond (.t 13) .skip (.exit 0)) (.seq (.block 1 (.seq (.reg [⟨some 14, none, .ixa (.t 10) (.t 12) 4⟩, ⟨some 15, none, .ld (.t 14) 4 true⟩, ⟨some 5, none, .new [.int .i64 0, .int .i64 0, .int .i64 0, .int .i64 0]⟩, ⟨none, none, .st (.t 5) (.t 15) 4⟩]) (.reg [⟨some 16, none, .mv (.t 3)⟩, ⟨some 17, none, .fa (.t 5) 0⟩, ⟨some 18, none, .ld (.t 17) 1 false⟩, ⟨some 19, none, .bsl 1 1 [.int .i64 0] [(0, .t 18)]⟩, ⟨some 20, none, .app (.t 16) (.t 19) 1 8⟩, ⟨some 3, none, .mv (.t 20)⟩]))) (.reg [⟨some 21, none, .bin .add (.t 12) (.c (.int .i64 1))⟩, ⟨some 12, none, .mv (.t 21)⟩]))))))) (.seq (.reg [⟨some 22, none, .mv (.t 3)⟩, ⟨some 2, none, .mv (.t 22)⟩]) .ret))))
theorem code_impl_FoursLike : HasCode Try.prog fn_impl_FoursLike mc_impl_FoursLike [.t 2] 23 := ⟨mixed, Try.f32, _, Try.func32, rfl, by kernel_rfl, by kernel_rfl, rfl, by kernel_rfl⟩

def mc_spec_FoursLike : MC :=
  .seq (.reg [⟨some 1, none, .box (.t 0)⟩, ⟨some 2, none, .mv (.c .nilSlice)⟩]) (.seq (.seq (.reg [⟨some 5, none, .ld (.t 1) 4 true⟩, ⟨some 6, none, .call fn_spec_validFour [.t 5]⟩, ⟨some 7, none, .un .not (.t 6)⟩]) (.cond (.t 7) (.seq (.reg [⟨some 2, none, .mv (.c .nilSlice)⟩]) .ret) .skip)) (.seq (.reg [⟨some 8, none, .bsl 0 1 [.int .i64 0] []⟩, ⟨some 3, none, .mv (.t 8)⟩]) (.seq (.seq (.reg [⟨some 4, none, .mv (.c (.int .i64 0))⟩]) (.block 0 (.loop (.seq (.seq (.reg [⟨some 9, none, .mv (.t 4)⟩, ⟨some 10, none, .fa (.t 1) 0⟩, ⟨some 11, none, .ld (.t 10) 1 false⟩, ⟨some 12, none, .fa (.t 1) 1⟩, ⟨some 13, none, .ld (.t 12) 1 false⟩, ⟨some 14, none, .bin .add (.t 11) (.t 13)⟩, ⟨some 15, none, .bin .leq (.t 9) (.t 14)⟩]) (.cond (.t 15) .skip (.exit 0))) (.seq (.block 1 (.seq (.reg [⟨some 18, none, .ld (.t 1) 4 true⟩, ⟨some 19, none, .mv (.t 4)⟩, ⟨some 20, none, .call fn_spec_shifted [.t 18, .t 19]⟩, ⟨some 21, none, .call fn_spec_whole [.t 20]⟩]) (.cond (.t 21) (.reg [⟨some 22, none, .mv (.t 3)⟩, ⟨some 23, none, .mv (.t 4)⟩, ⟨some 24, none, .bsl 1 1 [.int .i64 0] [(0, .t 23)]⟩, ⟨some 25, none, .app (.t 22) (.t 24) 1 8⟩, ⟨some 3, none, .mv (.t 25)⟩]) .skip))) (.reg [⟨some 16, none, .mv (.t 4)⟩, ⟨some 17, none, .bin .add (.t 16) (.c (.int .i64 1))⟩, ⟨some 4, none, .mv (.t 17)⟩])))))) (.seq (.reg [⟨some 26, none, .mv (.t 3)⟩, ⟨some 2, none, .mv (.t 26)⟩]) .ret))))
theorem code_spec_FoursLike : HasCode Try.prog fn_spec_FoursLike mc_spec_FoursLike [.t 2] 27 := ⟨mixed, Try.f33, _, Try.func33, rfl, by kernel_rfl, by kernel_rfl, rfl, by kernel_rfl⟩

def mc_laws_isIn : MC :=
  .seq (.reg [⟨some 4, none, .mv (.c (.bool false))⟩]) (.seq (.seq (.reg [⟨some 5, none, .mv (.c (.int .i64 0))⟩]) (.block 0 (.loop (.seq (.seq (.reg [⟨some 6, none, .mv (.t 5)⟩, ⟨some 7, none, .mv (.t 0)⟩, ⟨some 8, none, .len (.t 7)⟩, ⟨some 9, none, .bin .lss (.t 6) (.t 8)⟩]) (.cond (.t 9) .skip (.exit 0))) (.seq (.block 1 (.seq (.reg [⟨some 12, none, .mv (.t 0)⟩, ⟨some 13, none, .mv (.t 5)⟩, ⟨some 14, none, .ixa (.t 12) (.t 13) 1⟩, ⟨some 15, none, .ld (.t 14) 1 false⟩, ⟨some 16, none, .mv (.t 1)⟩, ⟨some 17, none, .bin .eql (.t 15) (.t 16)⟩]) (.cond (.t 17) (.seq (.reg [⟨some 4, none, .mv (.c (.bool true))⟩]) .ret) .skip))) (.reg [⟨some 10, none, .mv (.t 5)⟩, ⟨some 11, none, .bin .add (.t 10) (.c (.int .i64 1))⟩, ⟨some 5, none, .mv (.t 11)⟩])))))) (.seq (.reg [⟨some 4, none, .mv (.c (.bool false))⟩]) .ret))
theorem code_laws_isIn : HasCode Try.prog fn_laws_isIn mc_laws_isIn [.t 4] 18 := ⟨mixed, Try.f34, _, Try.func34, rfl, by kernel_rfl, by kernel_rfl, rfl, by kernel_rfl⟩

def mc_laws_ascends : MC :=
  .seq (.reg [⟨some 2, none, .mv (.c (.bool false))⟩]) (.seq (.seq (.reg [⟨some 3, none, .mv (.c (.int .i64 1))⟩]) (.block 0 (.loop (.seq (.seq (.reg [⟨some 4, none, .mv (.t 3)⟩, ⟨some 5, none, .mv (.t 0)⟩, ⟨some 6, none, .len (.t 5)⟩, ⟨some 7, none, .bin .lss (.t 4) (.t 6)⟩]) (.cond (.t 7) .skip (.exit 0))) (.seq (.block 1 (.seq (.drq [⟨some 10, none, .mv (.t 0)⟩, ⟨some 11, none, .mv (.t 3)⟩, ⟨some 12, none, .ixa (.t 10) (.t 11) 1⟩, ⟨some 13, none, .ld (.t 12) 1 false⟩, ⟨some 14, none, .mv (.t 0)⟩, ⟨some 15, none, .mv (.t 3)⟩, ⟨some 16, none, .bin .sub (.t 15) (.c (.int .i64 1))⟩, ⟨some 17, none, .ixa (.t 14) (.t 16) 1⟩, ⟨some 18, none, .ld (.t 17) 1 false⟩, ⟨some 19, none, .bin .leq (.t 13) (.t 18)⟩]) (.cond (.t 19) (.seq (.reg [⟨some 2, none, .mv (.c (.bool false))⟩]) .ret) .skip))) (.reg [⟨some 8, none, .mv (.t 3)⟩, ⟨some 9, none, .bin .add (.t 8) (.c (.int .i64 1))⟩, ⟨some 3, none, .mv (.t 9)⟩])))))) (.seq (.reg [⟨some 2, none, .mv (.c (.bool true))⟩]) .ret))
theorem code_laws_ascends : HasCode Try.prog fn_laws_ascends mc_laws_ascends [.t 2] 20 := ⟨mixed, Try.f35, _, Try.func35, rfl, by kernel_rfl, by kernel_rfl, rfl, by kernel_rfl⟩

def mc_spec_newReader : MC :=
  .seq (.reg [⟨some 2, none, .mv (.c .nilPtr)⟩]) (.seq (.seq (.reg [⟨some 3, none, .mv (.t 0)⟩, ⟨some 4, none, .len (.t 3)⟩, ⟨some 5, none, .bin .gtr (.t 4) (.c (.int .i64 2000))⟩]) (.cond (.t 5) (.reg [⟨some 6, none, .mv (.t 0)⟩, ⟨some 7, none, .sl (.t 6) none (some (.c (.int .i64 2000))) none 1⟩, ⟨some 0, none, .mv (.t 7)⟩]) .skip)) (.seq (.reg [⟨some 8, none, .mv (.t 0)⟩, ⟨some 9, none, .bld [.nilSlice, .int .i64 0] [(0, 1, .t 8)]⟩, ⟨some 10, none, .box (.t 9)⟩, ⟨some 2, none, .mv (.t 10)⟩]) .ret))
theorem code_spec_newReader : HasCode Try.prog fn_spec_newReader mc_spec_newReader [.t 2] 11 := ⟨mixed, Try.f55, _, Try.func55, rfl, by kernel_rfl, by kernel_rfl, rfl, by kernel_rfl⟩

def mc_spec_reader_one : MC :=
  .seq (.reg [⟨some 4, none, .mv (.c (.int .i64 0))⟩]) (.seq (.reg [⟨some 5, none, .mv (.t 1)⟩, ⟨some 6, none, .mv (.t 0)⟩, ⟨some 7, none, .mv (.t 1)⟩, ⟨some 8, none, .len (.t 7)⟩, ⟨some 9, none, .call fn_spec_reader_pick [.t 6, .t 8]⟩, ⟨some 10, none, .ixa (.t 5) (.t 9) 1⟩, ⟨some 11, none, .ld (.t 10) 1 false⟩, ⟨some 4, none, .mv (.t 11)⟩]) .ret)
theorem code_spec_reader_one : HasCode Try.prog fn_spec_reader_one mc_spec_reader_one [.t 4] 12 := ⟨mixed, Try.f65, _, Try.func65, rfl, by kernel_rfl, by kernel_rfl, rfl, by kernel_rfl⟩

def mc_spec_inRange : MC :=
  .seq (.reg [⟨some 6, none, .mv (.c (.bool false))⟩]) (.seq (.reg [⟨some 7, none, .mv (.t 1)⟩, ⟨some 8, none, .mv (.t 0)⟩, ⟨some 9, none, .bin .leq (.t 7) (.t 8)⟩, ⟨some 10, none, .mv (.t 9)⟩, ⟨some 11, some (10, true), .mv (.t 0)⟩, ⟨some 12, some (10, true), .mv (.t 2)⟩, ⟨some 13, some (10, true), .bin .leq (.t 11) (.t 12)⟩, ⟨some 14, none, .pick (.t 10) (.t 13) (.c (.bool false))⟩, ⟨some 6, none, .mv (.t 14)⟩]) .ret)
theorem code_spec_inRange : HasCode Try.prog fn_spec_inRange mc_spec_inRange [.t 6] 15 := ⟨mixed, Try.f67, _, Try.func67, rfl, by kernel_rfl, by kernel_rfl, rfl, by kernel_rfl⟩

def mc_spec_aFour : MC :=
  .seq (.reg [⟨some 2, none, .new [.int .i64 0, .int .i64 0, .int .i64 0, .int .i64 0]⟩]) (.seq (.reg [⟨some 4, none, .mv (.t 0)⟩, ⟨some 5, none, .call fn_spec_reader_pick [.t 4, .c (.int .i64 6)]⟩, ⟨some 6, none, .mv (.t 0)⟩, ⟨some 7, none, .call fn_spec_reader_pick [.t 6, .c (.int .i64 6)]⟩, ⟨some 8, none, .mv (.t 0)⟩, ⟨some 9, none, .call fn_spec_reader_pick [.t 8, .c (.int .i64 6)]⟩, ⟨some 10, none, .mv (.t 0)⟩, ⟨some 11, none, .call fn_spec_reader_pick [.t 10, .c (.int .i64 9)]⟩, ⟨some 12, none, .bld [.int .i64 0, .int .i64 0, .int .i64 0, .int .i64 0] [(0, 1, .t 5), (1, 1, .t 7), (2, 1, .t 9), (3, 1, .t 11)]⟩, ⟨some 3, none, .new [.int .i64 0, .int .i64 0, .int .i64 0, .int .i64 0]⟩, ⟨none, none, .st (.t 3) (.t 12) 4⟩]) (.seq (.seq (.reg [⟨some 13, none, .mv (.t 0)⟩, ⟨some 14, none, .call fn_spec_reader_pick [.t 13, .c (.int .i64 30)]⟩, ⟨some 15, none, .bin .eql (.t 14) (.c (.int .i64 0))⟩]) (.cond (.t 15) (.reg [⟨some 16, none, .mv (.t 0)⟩, ⟨some 17, none, .bsl 2 1 [.int .i64 0] [(0, .c (.int .i64 (-1))), (1, .c (.int .i64 9))]⟩, ⟨some 18, none, .call fn_spec_reader_one [.t 16, .t 17]⟩, ⟨some 19, none, .fa (.t 3) 1⟩, ⟨none, none, .st (.t 19) (.t 18) 1⟩]) .skip)) (.seq (.reg [⟨some 20, none, .ld (.t 3) 4 true⟩, ⟨none, none, .st (.t 2) (.t 20) 4⟩]) .ret)))
theorem code_spec_aFour : HasCode Try.prog fn_spec_aFour mc_spec_aFour [.c 2 4 true] 21 := ⟨mixed, Try.f70, _, Try.func70, rfl, by kernel_rfl, by kernel_rfl, rfl, by kernel_rfl⟩

def mc_impl_Four_valid : MC :=
  .seq (.reg [⟨some 1, none, .box (.t 0)⟩, ⟨some 2, none, .mv (.c (.bool false))⟩]) (.seq (.reg [⟨some 3, none, .fa (.t 1) 0⟩, ⟨some 4, none, .ld (.t 3) 1 false⟩, ⟨some 5, none, .fa (.t 1) 1⟩, ⟨some 6, none, .ld (.t 5) 1 false⟩, ⟨some 7, none, .fa (.t 1) 2⟩, ⟨some 8, none, .ld (.t 7) 1 false⟩, ⟨some 9, none, .fa (.t 1) 3⟩, ⟨some 10, none, .ld (.t 9) 1 false⟩, ⟨some 11, none, .mnmx false (.t 4) [.t 6, .t 8, .t 10]⟩, ⟨some 12, none, .bin .geq (.t 11) (.c (.int .i64 0))⟩, ⟨some 13, none, .mv (.t 12)⟩, ⟨some 14, some (13, true), .fa (.t 1) 0⟩, ⟨some 15, some (13, true), .ld (.t 14) 1 false⟩, ⟨some 16, some (13, true), .fa (.t 1) 1⟩, ⟨some 17, some (13, true), .ld (.t 16) 1 false⟩, ⟨some 18, some (13, true), .fa (.t 1) 2⟩, ⟨some 19, some (13, true), .ld (.t 18) 1 false⟩, ⟨some 20, some (13, true), .fa (.t 1) 3⟩, ⟨some 21, some (13, true), .ld (.t 20) 1 false⟩, ⟨some 22, some (13, true), .mnmx true (.t 15) [.t 17, .t 19, .t 21]⟩, ⟨some 23, some (13, true), .bin .leq (.t 22) (.c (.int .i64 8))⟩, ⟨some 24, none, .pick (.t 13) (.t 23) (.c (.bool false))⟩, ⟨some 2, none, .mv (.t 24)⟩]) .ret)
theorem code_impl_Four_valid : HasCode Try.prog fn_impl_Four_valid mc_impl_Four_valid [.t 2] 25 := ⟨mixed, Try.f71, _, Try.func71, rfl, by kernel_rfl, by kernel_rfl, rfl, by kernel_rfl⟩

def mc_spec_validFour : MC :=
  .seq (.reg [⟨some 1, none, .box (.t 0)⟩, ⟨some 2, none, .mv (.c (.bool false))⟩]) (.seq (.reg [⟨some 3, none, .fa (.t 1) 0⟩, ⟨some 4, none, .ld (.t 3) 1 false⟩, ⟨some 5, none, .call fn_spec_inRange [.t 4, .c (.int .i64 0), .c (.int .i64 8)]⟩, ⟨some 6, none, .mv (.t 5)⟩, ⟨some 7, some (6, true), .fa (.t 1) 1⟩, ⟨some 8, some (6, true), .ld (.t 7) 1 false⟩, ⟨some 9, some (6, true), .call fn_spec_inRange [.t 8, .c (.int .i64 0), .c (.int .i64 8)]⟩, ⟨some 10, none, .pick (.t 6) (.t 9) (.c (.bool false))⟩, ⟨some 11, none, .mv (.t 10)⟩, ⟨some 12, some (11, true), .fa (.t 1) 2⟩, ⟨some 13, some (11, true), .ld (.t 12) 1 false⟩, ⟨some 14, some (11, true), .call fn_spec_inRange [.t 13, .c (.int .i64 0), .c (.int .i64 8)]⟩, ⟨some 15, none, .pick (.t 11) (.t 14) (.c (.bool false))⟩, ⟨some 16, none, .mv (.t 15)⟩, ⟨some 17, some (16, true), .fa (.t 1) 3⟩, ⟨some 18, some (16, true), .ld (.t 17) 1 false⟩, ⟨some 19, some (16, true), .call fn_spec_inRange [.t 18, .c (.int .i64 0), .c (.int .i64 8)]⟩, ⟨some 20, none, .pick (.t 16) (.t 19) (.c (.bool false))⟩, ⟨some 2, none, .mv (.t 20)⟩]) .ret)
theorem code_spec_validFour : HasCode Try.prog fn_spec_validFour mc_spec_validFour [.t 2] 21 := ⟨mixed, Try.f74, _, Try.func74, rfl, by kernel_rfl, by kernel_rfl, rfl, by kernel_rfl⟩

def mc_impl_Four_alike : MC :=
  .seq (.reg [⟨some 1, none, .box (.t 0)⟩, ⟨some 2, none, .mv (.c .nilSlice)⟩]) (.seq (.reg [⟨some 3, none, .mv (.c .nilSlice)⟩]) (.seq (.reg [⟨some 6, none, .ld (.t 1) 4 true⟩, ⟨some 7, none, .fa (.t 1) 1⟩, ⟨some 8, none, .ld (.t 7) 1 false⟩, ⟨some 9, none, .fa (.t 1) 2⟩, ⟨some 10, none, .ld (.t 9) 1 false⟩, ⟨some 11, none, .mnmx false (.t 8) [.t 10]⟩, ⟨some 12, none, .bin .add (.t 11) (.c (.int .i64 1))⟩, ⟨some 13, none, .call fn_impl_Four_moved [.t 6, .t 12]⟩, ⟨some 4, none, .new [.int .i64 0, .int .i64 0, .int .i64 0, .int .i64 0]⟩, ⟨none, none, .st (.t 4) (.t 13) 4⟩]) (.seq (.seq (.reg [⟨some 14, none, .ld (.t 1) 4 true⟩, ⟨some 15, none, .fa (.t 1) 0⟩, ⟨some 16, none, .ld (.t 15) 1 false⟩, ⟨some 17, none, .fa (.t 1) 3⟩, ⟨some 18, none, .ld (.t 17) 1 false⟩, ⟨some 19, none, .mnmx false (.t 16) [.t 18]⟩, ⟨some 20, none, .un .neg (.t 19)⟩, ⟨some 21, none, .call fn_impl_Four_moved [.t 14, .t 20]⟩, ⟨some 5, none, .new [.int .i64 0, .int .i64 0, .int .i64 0, .int .i64 0]⟩, ⟨none, none, .st (.t 5) (.t 21) 4⟩]) (.block 0 (.loop (.seq (.seq (.reg [⟨some 22, none, .ld (.t 5) 4 true⟩, ⟨some 23, none, .ld (.t 4) 4 true⟩, ⟨some 24, none, .ageq true 4 (.t 22) (.t 23)⟩]) (.cond (.t 24) .skip (.exit 0))) (.seq (.block 1 (.reg [⟨some 27, none, .mv (.t 3)⟩, ⟨some 28, none, .ld (.t 5) 4 true⟩, ⟨some 29, none, .bsl 1 4 [.int .i64 0, .int .i64 0, .int .i64 0, .int .i64 0] [(0, .t 28)]⟩, ⟨some 30, none, .app (.t 27) (.t 29) 4 32⟩, ⟨some 3, none, .mv (.t 30)⟩])) (.seq (.seq (.reg [⟨some 31, none, .ld (.t 5) 4 true⟩]) (.reg [⟨some 5, none, .new [.int .i64 0, .int .i64 0, .int .i64 0, .int .i64 0]⟩, ⟨none, none, .st (.t 5) (.t 31) 4⟩])) (.reg [⟨some 25, none, .ld (.t 5) 4 true⟩, ⟨some 26, none, .call fn_impl_Four_moved [.t 25, .c (.int .i64 1)]⟩, ⟨none, none, .st (.t 5) (.t 26) 4⟩]))))))) (.seq (.reg [⟨some 32, none, .mv (.t 3)⟩, ⟨some 2, none, .mv (.t 32)⟩]) .ret))))
theorem code_impl_Four_alike : HasCode Try.prog fn_impl_Four_alike mc_impl_Four_alike [.t 2] 33 := ⟨mixed, Try.f76, _, Try.func76, rfl, by kernel_rfl, by kernel_rfl, rfl, by kernel_rfl⟩

def mc_spec_whole : MC :=
  .seq (.reg [⟨some 1, none, .box (.t 0)⟩, ⟨some 2, none, .mv (.c (.bool false))⟩]) (.seq (.reg [⟨some 3, none, .fa (.t 1) 0⟩, ⟨some 4, none, .ld (.t 3) 1 false⟩, ⟨some 5, none, .bin .geq (.t 4) (.c (.int .i64 0))⟩, ⟨some 6, none, .mv (.t 5)⟩, ⟨some 7, some (6, true), .fa (.t 1) 1⟩, ⟨some 8, some (6, true), .ld (.t 7) 1 false⟩, ⟨some 9, some (6, true), .bin .geq (.t 8) (.c (.int .i64 0))⟩, ⟨some 10, none, .pick (.t 6) (.t 9) (.c (.bool false))⟩, ⟨some 11, none, .mv (.t 10)⟩, ⟨some 12, some (11, true), .fa (.t 1) 2⟩, ⟨some 13, some (11, true), .ld (.t 12) 1 false⟩, ⟨some 14, some (11, true), .bin .geq (.t 13) (.c (.int .i64 0))⟩, ⟨some 15, none, .pick (.t 11) (.t 14) (.c (.bool false))⟩, ⟨some 16, none, .mv (.t 15)⟩, ⟨some 17, some (16, true), .fa (.t 1) 3⟩, ⟨some 18, some (16, true), .ld (.t 17) 1 false⟩, ⟨some 19, some (16, true), .bin .geq (.t 18) (.c (.int .i64 0))⟩, ⟨some 20, none, .pick (.t 16) (.t 19) (.c (.bool false))⟩, ⟨some 2, none, .mv (.t 20)⟩]) .ret)
theorem code_spec_whole : HasCode Try.prog fn_spec_whole mc_spec_whole [.t 2] 21 := ⟨mixed, Try.f77, _, Try.func77, rfl, by kernel_rfl, by kernel_rfl, rfl, by kernel_rfl⟩

def mc_spec_shifted : MC :=
  .seq (.reg [⟨some 2, none, .box (.t 0)⟩, ⟨some 4, none, .new [.int .i64 0, .int .i64 0, .int .i64 0, .int .i64 0]⟩]) (.seq (.reg [⟨some 5, none, .mv (.t 1)⟩, ⟨some 6, none, .fa (.t 2) 1⟩, ⟨some 7, none, .ld (.t 6) 1 false⟩, ⟨some 8, none, .fa (.t 2) 0⟩, ⟨some 9, none, .ld (.t 8) 1 false⟩, ⟨some 10, none, .bin .add (.t 7) (.t 9)⟩, ⟨some 11, none, .mv (.t 1)⟩, ⟨some 12, none, .bin .sub (.t 10) (.t 11)⟩, ⟨some 13, none, .fa (.t 2) 2⟩, ⟨some 14, none, .ld (.t 13) 1 false⟩, ⟨some 15, none, .fa (.t 2) 0⟩, ⟨some 16, none, .ld (.t 15) 1 false⟩, ⟨some 17, none, .bin .add (.t 14) (.t 16)⟩, ⟨some 18, none, .mv (.t 1)⟩, ⟨some 19, none, .bin .sub (.t 17) (.t 18)⟩, ⟨some 20, none, .fa (.t 2) 3⟩, ⟨some 21, none, .ld (.t 20) 1 false⟩, ⟨some 22, none, .fa (.t 2) 0⟩, ⟨some 23, none, .ld (.t 22) 1 false⟩, ⟨some 24, none, .bin .sub (.t 21) (.t 23)⟩, ⟨some 25, none, .mv (.t 1)⟩, ⟨some 26, none, .bin .add (.t 24) (.t 25)⟩, ⟨some 27, none, .bld [.int .i64 0, .int .i64 0, .int .i64 0, .int .i64 0] [(0, 1, .t 5), (1, 1, .t 12), (2, 1, .t 19), (3, 1, .t 26)]⟩, ⟨none, none, .st (.t 4) (.t 27) 4⟩]) .ret)
theorem code_spec_shifted : HasCode Try.prog fn_spec_shifted mc_spec_shifted [.c 4 4 true] 28 := ⟨mixed, Try.f78, _, Try.func78, rfl, by kernel_rfl, by kernel_rfl, rfl, by kernel_rfl⟩

def mc_spec_reader_pick : MC :=
  .seq (.reg [⟨some 4, none, .mv (.c (.int .i64 0))⟩]) (.seq (.reg [⟨some 7, none, .mv (.t 0)⟩, ⟨some 8, none, .mv (.t 0)⟩, ⟨some 9, none, .nilck (.t 8)⟩, ⟨some 10, none, .fa (.t 9) 1⟩, ⟨some 11, none, .ld (.t 10) 1 false⟩, ⟨some 12, none, .bin .add (.t 11) (.c (.int .i64 1))⟩, ⟨some 13, none, .nilck (.t 7)⟩, ⟨some 14, none, .fa (.t 13) 1⟩, ⟨none, none, .st (.t 14) (.t 12) 1⟩]) (.seq (.seq (.reg [⟨some 15, none, .mv (.t 1)⟩, ⟨some 16, none, .bin .lss (.t 15) (.c (.int .i64 1))⟩, ⟨some 17, none, .mv (.t 16)⟩, ⟨some 18, some (17, false), .mv (.t 0)⟩, ⟨some 19, some (17, false), .nilck (.t 18)⟩, ⟨some 20, some (17, false), .fa (.t 19) 0⟩, ⟨some 21, some (17, false), .ld (.t 20) 1 false⟩, ⟨some 22, some (17, false), .len (.t 21)⟩, ⟨some 23, some (17, false), .bin .eql (.t 22) (.c (.int .i64 0))⟩, ⟨some 24, none, .pick (.t 17) (.c (.bool true)) (.t 23)⟩]) (.cond (.t 24) (.seq (.reg [⟨some 4, none, .mv (.c (.int .i64 0))⟩]) .ret) .skip)) (.seq (.reg [⟨some 25, none, .mv (.t 0)⟩, ⟨some 26, none, .nilck (.t 25)⟩, ⟨some 27, none, .fa (.t 26) 1⟩, ⟨some 28, none, .ld (.t 27) 1 false⟩, ⟨some 29, none, .bin .sub (.t 28) (.c (.int .i64 1))⟩, ⟨some 5, none, .mv (.t 29)⟩]) (.seq (.seq (.reg [⟨some 30, none, .mv (.t 5)⟩, ⟨some 31, none, .mv (.t 0)⟩, ⟨some 32, none, .nilck (.t 31)⟩, ⟨some 33, none, .fa (.t 32) 0⟩, ⟨some 34, none, .ld (.t 33) 1 false⟩, ⟨some 35, none, .len (.t 34)⟩, ⟨some 36, none, .bin .lss (.t 30) (.t 35)⟩]) (.cond (.t 36) (.seq (.reg [⟨some 37, none, .mv (.t 0)⟩, ⟨some 38, none, .nilck (.t 37)⟩, ⟨some 39, none, .fa (.t 38) 0⟩, ⟨some 40, none, .ld (.t 39) 1 false⟩, ⟨some 41, none, .mv (.t 5)⟩, ⟨some 42, none, .ixa (.t 40) (.t 41) 1⟩, ⟨some 43, none, .ld (.t 42) 1 false⟩, ⟨some 44, none, .conv .i64 (.t 43)⟩, ⟨some 45, none, .mv (.t 1)⟩, ⟨some 46, none, .bin .rem (.t 44) (.t 45)⟩, ⟨some 4, none, .mv (.t 46)⟩]) .ret) .skip)) (.seq (.drq [⟨some 47, none, .mv (.t 0)⟩, ⟨some 48, none, .nilck (.t 47)⟩, ⟨some 49, none, .fa (.t 48) 0⟩, ⟨some 50, none, .ld (.t 49) 1 false⟩, ⟨some 51, none, .mv (.t 5)⟩, ⟨some 52, none, .mv (.t 0)⟩, ⟨some 53, none, .nilck (.t 52)⟩, ⟨some 54, none, .fa (.t 53) 0⟩, ⟨some 55, none, .ld (.t 54) 1 false⟩, ⟨some 56, none, .len (.t 55)⟩, ⟨some 57, none, .bin .rem (.t 51) (.t 56)⟩, ⟨some 58, none, .ixa (.t 50) (.t 57) 1⟩, ⟨some 59, none, .ld (.t 58) 1 false⟩, ⟨some 60, none, .conv .i64 (.t 59)⟩, ⟨some 61, none, .bin .mul (.t 60) (.c (.int .i64 131))⟩, ⟨some 62, none, .mv (.t 0)⟩, ⟨some 63, none, .nilck (.t 62)⟩, ⟨some 64, none, .fa (.t 63) 0⟩, ⟨some 65, none, .ld (.t 64) 1 false⟩, ⟨some 66, none, .mv (.t 5)⟩, ⟨some 67, none, .bin .mul (.t 66) (.c (.int .i64 7))⟩, ⟨some 68, none, .bin .add (.t 67) (.c (.int .i64 3))⟩, ⟨some 69, none, .mv (.t 0)⟩, ⟨some 70, none, .nilck (.t 69)⟩, ⟨some 71, none, .fa (.t 70) 0⟩, ⟨some 72, none, .ld (.t 71) 1 false⟩, ⟨some 73, none, .len (.t 72)⟩, ⟨some 74, none, .bin .rem (.t 68) (.t 73)⟩, ⟨some 75, none, .ixa (.t 65) (.t 74) 1⟩, ⟨some 76, none, .ld (.t 75) 1 false⟩, ⟨some 77, none, .conv .i64 (.t 76)⟩, ⟨some 78, none, .bin .mul (.t 77) (.c (.int .i64 1117))⟩, ⟨some 79, none, .bin .add (.t 61) (.t 78)⟩, ⟨some 80, none, .mv (.t 5)⟩, ⟨some 81, none, .bin .mul (.t 80) (.c (.int .i64 29))⟩, ⟨some 82, none, .bin .add (.t 79) (.t 81)⟩, ⟨some 83, none, .mv (.t 5)⟩, ⟨some 84, none, .mv (.t 0)⟩, ⟨some 85, none, .nilck (.t 84)⟩, ⟨some 86, none, .fa (.t 85) 0⟩, ⟨some 87, none, .ld (.t 86) 1 false⟩, ⟨some 88, none, .len (.t 87)⟩, ⟨some 89, none, .bin .quo (.t 83) (.t 88)⟩, ⟨some 90, none, .bin .mul (.t 89) (.c (.int .i64 53))⟩, ⟨some 91, none, .bin .add (.t 82) (.t 90)⟩, ⟨some 6, none, .mv (.t 91)⟩]) (.seq (.reg [⟨some 92, none, .mv (.t 6)⟩, ⟨some 93, none, .mv (.t 6)⟩, ⟨some 94, none, .bin .quo (.t 93) (.c (.int .i64 64))⟩, ⟨some 95, none, .bin .xor (.t 92) (.t 94)⟩, ⟨some 6, none, .mv (.t 95)⟩]) (.seq (.reg [⟨some 96, none, .mv (.t 6)⟩, ⟨some 97, none, .mv (.t 1)⟩, ⟨some 98, none, .bin .rem (.t 96) (.t 97)⟩, ⟨some 4, none, .mv (.t 98)⟩]) .ret)))))))
theorem code_spec_reader_pick : HasCode Try.prog fn_spec_reader_pick mc_spec_reader_pick [.t 4] 99 := ⟨mixed, Try.f82, _, Try.func82, rfl, by kernel_rfl, by kernel_rfl, rfl, by kernel_rfl⟩

def mc_impl_Four_moved : MC :=
  .seq (.reg [⟨some 2, none, .box (.t 0)⟩, ⟨some 4, none, .new [.int .i64 0, .int .i64 0, .int .i64 0, .int .i64 0]⟩]) (.seq (.reg [⟨some 5, none, .fa (.t 2) 0⟩, ⟨some 6, none, .ld (.t 5) 1 false⟩, ⟨some 7, none, .mv (.t 1)⟩, ⟨some 8, none, .bin .add (.t 6) (.t 7)⟩, ⟨some 9, none, .fa (.t 2) 1⟩, ⟨some 10, none, .ld (.t 9) 1 false⟩, ⟨some 11, none, .mv (.t 1)⟩, ⟨some 12, none, .bin .sub (.t 10) (.t 11)⟩, ⟨some 13, none, .fa (.t 2) 2⟩, ⟨some 14, none, .ld (.t 13) 1 false⟩, ⟨some 15, none, .mv (.t 1)⟩, ⟨some 16, none, .bin .sub (.t 14) (.t 15)⟩, ⟨some 17, none, .fa (.t 2) 3⟩, ⟨some 18, none, .ld (.t 17) 1 false⟩, ⟨some 19, none, .mv (.t 1)⟩, ⟨some 20, none, .bin .add (.t 18) (.t 19)⟩, ⟨some 21, none, .bld [.int .i64 0, .int .i64 0, .int .i64 0, .int .i64 0] [(0, 1, .t 8), (1, 1, .t 12), (2, 1, .t 16), (3, 1, .t 20)]⟩, ⟨none, none, .st (.t 4) (.t 21) 4⟩]) .ret)
theorem code_impl_Four_moved : HasCode Try.prog fn_impl_Four_moved mc_impl_Four_moved [.c 4 4 true] 22 := ⟨mixed, Try.f94, _, Try.func94, rfl, by kernel_rfl, by kernel_rfl, rfl, by kernel_rfl⟩

end Go.Rx.Try
