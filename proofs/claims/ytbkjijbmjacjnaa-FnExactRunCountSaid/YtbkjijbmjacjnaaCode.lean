/-
  The code of each function of the program, taken up. Made by a program.
-/
import Derived.Test.YtbkjijbmjacjnaaProg
import Derived.Test.YtbkjijbmjacjnaaRxI
import Derived.KernelRfl
namespace Go.Rx.Try
open Go.Proofs
set_option maxRecDepth 100000

abbrev fn_laws_FnSplitChance : FuncId := 3
abbrev fn_laws_FnWinCounts : FuncId := 4
abbrev fn_laws_FnRunCount : FuncId := 5
abbrev fn_laws_FnFourWays : FuncId := 6
abbrev fn_laws_FnFoursLike : FuncId := 7
abbrev fn_laws_FnFourChance : FuncId := 8
abbrev fn_laws_FnFourBoth : FuncId := 9
abbrev fn_laws_FnTablesWith : FuncId := 10
abbrev fn_laws_FnChangeChance : FuncId := 11
abbrev fn_laws_FnExactSplitChance : FuncId := 12
abbrev fn_laws_FnExactWinCounts : FuncId := 13
abbrev fn_laws_FnExactRunCount : FuncId := 14
abbrev fn_spec_DrawSplitChance : FuncId := 15
abbrev fn_impl_SplitChance : FuncId := 16
abbrev fn_spec_SplitChance : FuncId := 17
abbrev fn_laws_choose : FuncId := 18
abbrev fn_spec_DrawWinCounts : FuncId := 19
abbrev fn_impl_WinCounts : FuncId := 20
abbrev fn_laws_equalInts : FuncId := 21
abbrev fn_spec_WinCounts : FuncId := 22
abbrev fn_laws_turned : FuncId := 23
abbrev fn_laws_total : FuncId := 24
abbrev fn_spec_DrawRunCount : FuncId := 25
abbrev fn_impl_RunCount : FuncId := 26
abbrev fn_spec_RunCount : FuncId := 27
abbrev fn_spec_DrawFourWays : FuncId := 28
abbrev fn_impl_FourWays : FuncId := 29
abbrev fn_spec_FourWays : FuncId := 30
abbrev fn_spec_DrawFoursLike : FuncId := 31
abbrev fn_impl_FoursLike : FuncId := 32
abbrev fn_spec_FoursLike : FuncId := 33
abbrev fn_laws_isIn : FuncId := 34
abbrev fn_laws_ascends : FuncId := 35
abbrev fn_spec_DrawFourChance : FuncId := 36
abbrev fn_impl_FourChance : FuncId := 37
abbrev fn_spec_FourChance : FuncId := 38
abbrev fn_spec_DrawFourBoth : FuncId := 39
abbrev fn_impl_FourBoth : FuncId := 40
abbrev fn_spec_FourBoth : FuncId := 41
abbrev fn_spec_DrawTablesWith : FuncId := 42
abbrev fn_impl_TablesWith : FuncId := 43
abbrev fn_spec_TablesWith : FuncId := 44
abbrev fn_laws_product : FuncId := 45
abbrev fn_spec_DrawChangeChance : FuncId := 46
abbrev fn_impl_ChangeChance : FuncId := 47
abbrev fn_spec_ChangeChance : FuncId := 48
abbrev fn_laws_raised : FuncId := 49
abbrev fn_laws_toIntS : FuncId := 50
abbrev fn_laws_eqIntS : FuncId := 51
abbrev fn_laws_markIntS : FuncId := 52
abbrev fn_laws_heldIntS : FuncId := 53
abbrev fn_spec_twoSamples : FuncId := 54
abbrev fn_spec_newReader : FuncId := 55
abbrev fn_impl_validSamples : FuncId := 56
abbrev fn_slices_Concat_ints : FuncId := 57
abbrev fn_impl_sumAt : FuncId := 58
abbrev fn_impl_firstPlaces : FuncId := 59
abbrev fn_impl_splits : FuncId := 60
abbrev fn_spec_validSamples : FuncId := 61
abbrev fn_spec_atLeast : FuncId := 62
abbrev fn_spec_sum : FuncId := 63
abbrev fn_spec_choose : FuncId := 64
abbrev fn_spec_reader_one : FuncId := 65
abbrev fn_impl_winsIn : FuncId := 66
abbrev fn_spec_inRange : FuncId := 67
abbrev fn_spec_winCounts : FuncId := 68
abbrev fn_impl_places_has : FuncId := 69
abbrev fn_spec_aFour : FuncId := 70
abbrev fn_impl_Four_valid : FuncId := 71
abbrev fn_impl_Four_ways : FuncId := 72
abbrev fn_impl_choose : FuncId := 73
abbrev fn_spec_validFour : FuncId := 74
abbrev fn_spec_fourWays : FuncId := 75
abbrev fn_impl_Four_alike : FuncId := 76
abbrev fn_spec_whole : FuncId := 77
abbrev fn_spec_shifted : FuncId := 78
abbrev fn_impl_Four_waysAlike : FuncId := 79
abbrev fn_impl_Four_reachedBy : FuncId := 80
abbrev fn_impl_Four_matchedBy : FuncId := 81
abbrev fn_spec_reader_pick : FuncId := 82
abbrev fn_impl_sumOf : FuncId := 83
abbrev fn_impl_sums_fill : FuncId := 84
abbrev fn_spec_validSums : FuncId := 85
abbrev fn_spec_countTables : FuncId := 86
abbrev fn_spec_power : FuncId := 87
abbrev fn_spec_dataOf : FuncId := 88
abbrev fn_impl_ValidData : FuncId := 89
abbrev fn_slices_Grow_ints : FuncId := 90
abbrev fn_impl_splits_1 : FuncId := 91
abbrev fn_math_bits_OnesCount : FuncId := 92
abbrev fn_spec_validData : FuncId := 93
abbrev fn_impl_Four_moved : FuncId := 94
abbrev fn_impl_sums_without : FuncId := 95
abbrev fn_spec_rowsFrom : FuncId := 96
abbrev fn_spec_factorial : FuncId := 97
abbrev fn_math_bits_OnesCount32 : FuncId := 98
abbrev fn_math_bits_OnesCount64 : FuncId := 99
abbrev fn_runtime_boundsError_Error : FuncId := 100
abbrev fn_runtime_boundsError_RuntimeError : FuncId := 101
abbrev fn_runtime_errorString_Error : FuncId := 102
abbrev fn_runtime_errorString_RuntimeError : FuncId := 103
abbrev fn_runtime_plainError_Error : FuncId := 104
abbrev fn_runtime_plainError_RuntimeError : FuncId := 105
abbrev fn_runtime_errorAddressString_Error : FuncId := 106
abbrev fn_runtime_errorAddressString_RuntimeError : FuncId := 107
abbrev fn_runtime_TypeAssertionError_Error : FuncId := 108
abbrev fn_runtime_TypeAssertionError_RuntimeError : FuncId := 109
abbrev fn_runtime_PanicNilError_Error : FuncId := 110
abbrev fn_runtime_PanicNilError_RuntimeError : FuncId := 111
abbrev fn_internal_abi_Type_Align : FuncId := 112
abbrev fn_internal_runtime_maps_unhashableTypeError_Error : FuncId := 113
abbrev fn_internal_runtime_maps_unhashableTypeError_RuntimeError : FuncId := 114
abbrev fn_internal_abi_Kind_String : FuncId := 115
theorem mixed : Try.prog.follows .mixedOrders = true := by kernel_rfl

def mc_laws_FnExactRunCount : MC :=
  .seq (.reg [⟨some 6, none, .mv (.c (.bool false))⟩]) (.seq (.reg [⟨some 9, none, .mv (.t 0)⟩, ⟨some 10, none, .mv (.t 1)⟩, ⟨some 11, none, .mv (.t 2)⟩, ⟨some 12, none, .call fn_spec_RunCount [.t 9, .t 10, .t 11]⟩, ⟨some 7, none, .mv (.t 12)⟩]) (.seq (.reg [⟨some 13, none, .mv (.t 0)⟩, ⟨some 14, none, .mv (.t 1)⟩, ⟨some 15, none, .mv (.t 2)⟩, ⟨some 16, none, .call fn_impl_RunCount [.t 13, .t 14, .t 15]⟩, ⟨some 8, none, .mv (.t 16)⟩]) (.seq (.seq (.reg [⟨some 17, none, .mv (.t 8)⟩, ⟨some 18, none, .mv (.t 7)⟩, ⟨some 19, none, .bin .neq (.t 17) (.t 18)⟩]) (.cond (.t 19) (.seq (.reg [⟨some 6, none, .mv (.c (.bool false))⟩]) .ret) .skip)) (.seq (.reg [⟨some 6, none, .mv (.c (.bool true))⟩]) .ret))))
theorem code_laws_FnExactRunCount : HasCode Try.prog fn_laws_FnExactRunCount mc_laws_FnExactRunCount [.t 6] 20 := ⟨mixed, Try.f14, _, Try.func14, rfl, by kernel_rfl, by kernel_rfl, rfl, by kernel_rfl⟩

def mc_impl_RunCount : MC :=
  .seq (.reg [⟨some 3, none, .box (.t 0)⟩, ⟨some 4, none, .box (.t 1)⟩, ⟨some 5, none, .box (.t 2)⟩, ⟨some 6, none, .mv (.c (.int .i64 0))⟩]) (.scope (.seq (.seq (.reg [⟨some 11, none, .ld (.t 3) 1 false⟩, ⟨some 12, none, .ld (.t 4) 1 false⟩, ⟨some 13, none, .ld (.t 5) 1 false⟩, ⟨some 14, none, .mnmx false (.t 11) [.t 12, .t 13]⟩, ⟨some 15, none, .bin .lss (.t 14) (.c (.int .i64 1))⟩, ⟨some 16, none, .mv (.t 15)⟩, ⟨some 17, some (16, false), .ld (.t 3) 1 false⟩, ⟨some 18, some (16, false), .ld (.t 4) 1 false⟩, ⟨some 19, some (16, false), .mnmx true (.t 17) [.t 18]⟩, ⟨some 20, some (16, false), .bin .gtr (.t 19) (.c (.int .i64 6))⟩, ⟨some 21, none, .pick (.t 16) (.c (.bool true)) (.t 20)⟩]) (.cond (.t 21) (.seq (.reg [⟨some 6, none, .mv (.c (.int .i64 (-1)))⟩]) .ret) .skip)) (.seq (.reg [⟨some 7, none, .new [.int .i64 0]⟩, ⟨none, none, .st (.t 7) (.c (.int .i64 0)) 1⟩]) (.seq .skip (.seq (.seq (.reg [⟨some 22, none, .ld (.t 3) 1 false⟩, ⟨some 23, none, .ld (.t 4) 1 false⟩, ⟨some 24, none, .bin .add (.t 22) (.t 23)⟩, ⟨some 25, none, .ld (.t 3) 1 false⟩, ⟨some 26, none, .call fn_impl_splits [.t 24, .t 25]⟩]) (.block 0 (.rfunc (.t 26) [27] (.reg [⟨some 8, none, .mv (.t 27)⟩]) (.block 1 (.seq (.reg [⟨some 9, none, .mv (.c (.int .i64 1))⟩]) (.seq (.seq (.reg [⟨some 10, none, .mv (.c (.int .i64 1))⟩]) (.block 2 (.loop (.seq (.seq (.reg [⟨some 28, none, .mv (.t 10)⟩, ⟨some 29, none, .ld (.t 3) 1 false⟩, ⟨some 30, none, .ld (.t 4) 1 false⟩, ⟨some 31, none, .bin .add (.t 29) (.t 30)⟩, ⟨some 32, none, .bin .lss (.t 28) (.t 31)⟩]) (.cond (.t 32) .skip (.exit 2))) (.seq (.block 3 (.seq (.seq (.reg [⟨some 35, none, .mv (.t 8)⟩, ⟨some 36, none, .mv (.t 10)⟩, ⟨some 37, none, .call fn_impl_places_has [.t 35, .t 36]⟩, ⟨some 38, none, .mv (.t 8)⟩, ⟨some 39, none, .mv (.t 10)⟩, ⟨some 40, none, .bin .sub (.t 39) (.c (.int .i64 1))⟩, ⟨some 41, none, .call fn_impl_places_has [.t 38, .t 40]⟩, ⟨some 42, none, .beq false (.t 37) (.t 41)⟩]) (.cond (.t 42) (.exit 3) .skip)) (.seq (.seq (.reg [⟨some 43, none, .mv (.t 9)⟩, ⟨some 44, none, .ld (.t 5) 1 false⟩, ⟨some 45, none, .bin .eql (.t 43) (.t 44)⟩]) (.cond (.t 45) (.exit 1) .skip)) (.reg [⟨some 46, none, .mv (.t 9)⟩, ⟨some 47, none, .bin .add (.t 46) (.c (.int .i64 1))⟩, ⟨some 9, none, .mv (.t 47)⟩])))) (.reg [⟨some 33, none, .mv (.t 10)⟩, ⟨some 34, none, .bin .add (.t 33) (.c (.int .i64 1))⟩, ⟨some 10, none, .mv (.t 34)⟩])))))) (.seq (.reg [⟨some 48, none, .mv (.t 9)⟩, ⟨some 49, none, .ld (.t 5) 1 false⟩, ⟨some 50, none, .bin .eql (.t 48) (.t 49)⟩]) (.cond (.t 50) (.reg [⟨some 51, none, .ld (.t 7) 1 false⟩, ⟨some 52, none, .bin .add (.t 51) (.c (.int .i64 1))⟩, ⟨none, none, .st (.t 7) (.t 52) 1⟩]) .skip)))))))) (.seq (.reg [⟨some 53, none, .ld (.t 7) 1 false⟩, ⟨some 6, none, .mv (.t 53)⟩]) .ret))))))
theorem code_impl_RunCount : HasCode Try.prog fn_impl_RunCount mc_impl_RunCount [.t 6] 54 := ⟨mixed, Try.f26, _, Try.func26, rfl, by kernel_rfl, by kernel_rfl, rfl, by kernel_rfl⟩

def mc_spec_RunCount : MC :=
  .seq (.reg [⟨some 6, none, .mv (.c (.int .i64 0))⟩]) (.seq (.seq (.reg [⟨some 8, none, .mv (.t 0)⟩, ⟨some 9, none, .call fn_spec_inRange [.t 8, .c (.int .i64 1), .c (.int .i64 6)]⟩, ⟨some 10, none, .un .not (.t 9)⟩, ⟨some 11, none, .mv (.t 10)⟩, ⟨some 12, some (11, false), .mv (.t 1)⟩, ⟨some 13, some (11, false), .call fn_spec_inRange [.t 12, .c (.int .i64 1), .c (.int .i64 6)]⟩, ⟨some 14, some (11, false), .un .not (.t 13)⟩, ⟨some 15, none, .pick (.t 11) (.c (.bool true)) (.t 14)⟩, ⟨some 16, none, .mv (.t 15)⟩, ⟨some 17, some (16, false), .mv (.t 2)⟩, ⟨some 18, some (16, false), .bin .lss (.t 17) (.c (.int .i64 1))⟩, ⟨some 19, none, .pick (.t 16) (.c (.bool true)) (.t 18)⟩]) (.cond (.t 19) (.seq (.reg [⟨some 6, none, .mv (.c (.int .i64 (-1)))⟩]) .ret) .skip)) (.seq (.seq (.reg [⟨some 20, none, .mv (.t 2)⟩, ⟨some 21, none, .mv (.t 0)⟩, ⟨some 22, none, .mv (.t 1)⟩, ⟨some 23, none, .bin .add (.t 21) (.t 22)⟩, ⟨some 24, none, .bin .gtr (.t 20) (.t 23)⟩]) (.cond (.t 24) (.seq (.reg [⟨some 6, none, .mv (.c (.int .i64 0))⟩]) .ret) .skip)) (.seq (.reg [⟨some 25, none, .mv (.t 2)⟩, ⟨some 26, none, .bin .quo (.t 25) (.c (.int .i64 2))⟩, ⟨some 7, none, .mv (.t 26)⟩]) (.seq (.seq (.reg [⟨some 27, none, .mv (.t 2)⟩, ⟨some 28, none, .bin .rem (.t 27) (.c (.int .i64 2))⟩, ⟨some 29, none, .bin .eql (.t 28) (.c (.int .i64 0))⟩]) (.cond (.t 29) (.seq (.reg [⟨some 30, none, .mv (.t 0)⟩, ⟨some 31, none, .bin .sub (.t 30) (.c (.int .i64 1))⟩, ⟨some 32, none, .mv (.t 7)⟩, ⟨some 33, none, .bin .sub (.t 32) (.c (.int .i64 1))⟩, ⟨some 34, none, .call fn_spec_choose [.t 31, .t 33]⟩, ⟨some 35, none, .bin .mul (.c (.int .i64 2)) (.t 34)⟩, ⟨some 36, none, .mv (.t 1)⟩, ⟨some 37, none, .bin .sub (.t 36) (.c (.int .i64 1))⟩, ⟨some 38, none, .mv (.t 7)⟩, ⟨some 39, none, .bin .sub (.t 38) (.c (.int .i64 1))⟩, ⟨some 40, none, .call fn_spec_choose [.t 37, .t 39]⟩, ⟨some 41, none, .bin .mul (.t 35) (.t 40)⟩, ⟨some 6, none, .mv (.t 41)⟩]) .ret) .skip)) (.seq (.reg [⟨some 42, none, .mv (.t 0)⟩, ⟨some 43, none, .bin .sub (.t 42) (.c (.int .i64 1))⟩, ⟨some 44, none, .mv (.t 7)⟩, ⟨some 45, none, .call fn_spec_choose [.t 43, .t 44]⟩, ⟨some 46, none, .mv (.t 1)⟩, ⟨some 47, none, .bin .sub (.t 46) (.c (.int .i64 1))⟩, ⟨some 48, none, .mv (.t 7)⟩, ⟨some 49, none, .bin .sub (.t 48) (.c (.int .i64 1))⟩, ⟨some 50, none, .call fn_spec_choose [.t 47, .t 49]⟩, ⟨some 51, none, .bin .mul (.t 45) (.t 50)⟩, ⟨some 52, none, .mv (.t 0)⟩, ⟨some 53, none, .bin .sub (.t 52) (.c (.int .i64 1))⟩, ⟨some 54, none, .mv (.t 7)⟩, ⟨some 55, none, .bin .sub (.t 54) (.c (.int .i64 1))⟩, ⟨some 56, none, .call fn_spec_choose [.t 53, .t 55]⟩, ⟨some 57, none, .mv (.t 1)⟩, ⟨some 58, none, .bin .sub (.t 57) (.c (.int .i64 1))⟩, ⟨some 59, none, .mv (.t 7)⟩, ⟨some 60, none, .call fn_spec_choose [.t 58, .t 59]⟩, ⟨some 61, none, .bin .mul (.t 56) (.t 60)⟩, ⟨some 62, none, .bin .add (.t 51) (.t 61)⟩, ⟨some 6, none, .mv (.t 62)⟩]) .ret)))))
theorem code_spec_RunCount : HasCode Try.prog fn_spec_RunCount mc_spec_RunCount [.t 6] 63 := ⟨mixed, Try.f27, _, Try.func27, rfl, by kernel_rfl, by kernel_rfl, rfl, by kernel_rfl⟩

def mc_impl_firstPlaces : MC :=
  .seq (.reg [⟨some 2, none, .mv (.c (.int .u64 0))⟩]) (.seq (.reg [⟨some 3, none, .mv (.t 0)⟩, ⟨some 4, none, .bin .shl (.c (.int .u64 1)) (.t 3)⟩, ⟨some 5, none, .bin .sub (.t 4) (.c (.int .u64 1))⟩, ⟨some 2, none, .mv (.t 5)⟩]) .ret)
theorem code_impl_firstPlaces : HasCode Try.prog fn_impl_firstPlaces mc_impl_firstPlaces [.t 2] 6 := ⟨mixed, Try.f59, _, Try.func59, rfl, by kernel_rfl, by kernel_rfl, rfl, by kernel_rfl⟩

def mc_impl_splits : MC :=
  .seq (.reg [⟨some 2, none, .box (.t 0)⟩, ⟨some 3, none, .box (.t 1)⟩, ⟨some 4, none, .mv (.c .nilFunc)⟩]) (.seq (.reg [⟨some 5, none, .mkf fn_impl_splits_1 [.t 2, .t 3]⟩, ⟨some 4, none, .mv (.t 5)⟩]) .ret)
theorem code_impl_splits : HasCode Try.prog fn_impl_splits mc_impl_splits [.t 4] 6 := ⟨mixed, Try.f60, _, Try.func60, rfl, by kernel_rfl, by kernel_rfl, rfl, by kernel_rfl⟩

def mc_spec_choose : MC :=
  .seq (.reg [⟨some 4, none, .mv (.c (.int .i64 0))⟩]) (.seq (.seq (.reg [⟨some 7, none, .mv (.t 1)⟩, ⟨some 8, none, .bin .lss (.t 7) (.c (.int .i64 0))⟩, ⟨some 9, none, .mv (.t 8)⟩, ⟨some 10, some (9, false), .mv (.t 1)⟩, ⟨some 11, some (9, false), .mv (.t 0)⟩, ⟨some 12, some (9, false), .bin .gtr (.t 10) (.t 11)⟩, ⟨some 13, none, .pick (.t 9) (.c (.bool true)) (.t 12)⟩]) (.cond (.t 13) (.seq (.reg [⟨some 4, none, .mv (.c (.int .i64 0))⟩]) .ret) .skip)) (.seq (.reg [⟨some 5, none, .mv (.c (.int .i64 1))⟩]) (.seq (.seq (.reg [⟨some 6, none, .mv (.c (.int .i64 0))⟩]) (.block 0 (.loop (.seq (.seq (.reg [⟨some 14, none, .mv (.t 6)⟩, ⟨some 15, none, .mv (.t 1)⟩, ⟨some 16, none, .bin .lss (.t 14) (.t 15)⟩]) (.cond (.t 16) .skip (.exit 0))) (.seq (.block 1 (.reg [⟨some 19, none, .mv (.t 5)⟩, ⟨some 20, none, .mv (.t 0)⟩, ⟨some 21, none, .mv (.t 6)⟩, ⟨some 22, none, .bin .sub (.t 20) (.t 21)⟩, ⟨some 23, none, .bin .mul (.t 19) (.t 22)⟩, ⟨some 24, none, .mv (.t 6)⟩, ⟨some 25, none, .bin .add (.t 24) (.c (.int .i64 1))⟩, ⟨some 26, none, .bin .quo (.t 23) (.t 25)⟩, ⟨some 5, none, .mv (.t 26)⟩])) (.reg [⟨some 17, none, .mv (.t 6)⟩, ⟨some 18, none, .bin .add (.t 17) (.c (.int .i64 1))⟩, ⟨some 6, none, .mv (.t 18)⟩])))))) (.seq (.reg [⟨some 27, none, .mv (.t 5)⟩, ⟨some 4, none, .mv (.t 27)⟩]) .ret))))
theorem code_spec_choose : HasCode Try.prog fn_spec_choose mc_spec_choose [.t 4] 28 := ⟨mixed, Try.f64, _, Try.func64, rfl, by kernel_rfl, by kernel_rfl, rfl, by kernel_rfl⟩

def mc_spec_inRange : MC :=
  .seq (.reg [⟨some 6, none, .mv (.c (.bool false))⟩]) (.seq (.reg [⟨some 7, none, .mv (.t 1)⟩, ⟨some 8, none, .mv (.t 0)⟩, ⟨some 9, none, .bin .leq (.t 7) (.t 8)⟩, ⟨some 10, none, .mv (.t 9)⟩, ⟨some 11, some (10, true), .mv (.t 0)⟩, ⟨some 12, some (10, true), .mv (.t 2)⟩, ⟨some 13, some (10, true), .bin .leq (.t 11) (.t 12)⟩, ⟨some 14, none, .pick (.t 10) (.t 13) (.c (.bool false))⟩, ⟨some 6, none, .mv (.t 14)⟩]) .ret)
theorem code_spec_inRange : HasCode Try.prog fn_spec_inRange mc_spec_inRange [.t 6] 15 := ⟨mixed, Try.f67, _, Try.func67, rfl, by kernel_rfl, by kernel_rfl, rfl, by kernel_rfl⟩

def mc_impl_places_has : MC :=
  .seq (.reg [⟨some 4, none, .mv (.c (.bool false))⟩]) (.seq (.reg [⟨some 5, none, .mv (.t 0)⟩, ⟨some 6, none, .mv (.t 1)⟩, ⟨some 7, none, .bin .shr (.t 5) (.t 6)⟩, ⟨some 8, none, .bin .and (.t 7) (.c (.int .u64 1))⟩, ⟨some 9, none, .bin .eql (.t 8) (.c (.int .u64 1))⟩, ⟨some 4, none, .mv (.t 9)⟩]) .ret)
theorem code_impl_places_has : HasCode Try.prog fn_impl_places_has mc_impl_places_has [.t 4] 10 := ⟨mixed, Try.f69, _, Try.func69, rfl, by kernel_rfl, by kernel_rfl, rfl, by kernel_rfl⟩

def mc_impl_splits_1 : MC :=
  .seq (.reg [⟨some 5, none, .ld (.t 1) 1 false⟩, ⟨some 6, none, .call fn_impl_firstPlaces [.t 5]⟩, ⟨some 7, none, .bin .add (.t 6) (.c (.int .u64 1))⟩, ⟨some 8, none, .mv (.c (.int .u64 0))⟩]) (.block 0 (.loop (.seq (.reg [⟨some 9, none, .bin .lss (.t 8) (.t 7)⟩]) (.seq (.cond (.t 9) .skip (.exit 0)) (.seq (.block 1 (.seq (.reg [⟨some 10, none, .mv (.t 8)⟩, ⟨some 4, none, .mv (.t 10)⟩]) (.seq (.dra [[⟨some 11, none, .mv (.t 4)⟩, ⟨some 12, none, .call fn_math_bits_OnesCount [.t 11]⟩, ⟨some 13, none, .ld (.t 2) 1 false⟩, ⟨some 14, none, .bin .eql (.t 12) (.t 13)⟩, ⟨some 15, none, .mv (.t 14)⟩, ⟨some 16, some (15, true), .mv (.t 0)⟩, ⟨some 17, some (15, true), .mv (.t 4)⟩, ⟨some 18, some (15, true), .callv (.t 16) [.t 17]⟩, ⟨some 19, some (15, true), .un .not (.t 18)⟩, ⟨some 20, none, .pick (.t 15) (.t 19) (.c (.bool false))⟩], [⟨some 11, none, .mv (.t 4)⟩, ⟨some 13, none, .ld (.t 2) 1 false⟩, ⟨some 12, none, .call fn_math_bits_OnesCount [.t 11]⟩, ⟨some 14, none, .bin .eql (.t 12) (.t 13)⟩, ⟨some 15, none, .mv (.t 14)⟩, ⟨some 16, some (15, true), .mv (.t 0)⟩, ⟨some 17, some (15, true), .mv (.t 4)⟩, ⟨some 18, some (15, true), .callv (.t 16) [.t 17]⟩, ⟨some 19, some (15, true), .un .not (.t 18)⟩, ⟨some 20, none, .pick (.t 15) (.t 19) (.c (.bool false))⟩]]) (.cond (.t 20) .ret .skip)))) (.reg [⟨some 21, none, .bin .add (.t 8) (.c (.int .u64 1))⟩, ⟨some 8, none, .mv (.t 21)⟩]))))))
theorem code_impl_splits_1 : HasCode Try.prog fn_impl_splits_1 mc_impl_splits_1 [] 22 := ⟨mixed, Try.f91, _, Try.func91, rfl, by kernel_rfl, by kernel_rfl, rfl, by kernel_rfl⟩

def mc_math_bits_OnesCount : MC :=
  .seq (.reg [⟨some 2, none, .mv (.c (.int .i64 0))⟩]) (.seq (.cond (.c (.bool false)) (.seq (.reg [⟨some 3, none, .mv (.t 0)⟩, ⟨some 4, none, .conv .u32 (.t 3)⟩, ⟨some 5, none, .call fn_math_bits_OnesCount32 [.t 4]⟩, ⟨some 2, none, .mv (.t 5)⟩]) .ret) .skip) (.seq (.reg [⟨some 6, none, .mv (.t 0)⟩, ⟨some 7, none, .call fn_math_bits_OnesCount64 [.t 6]⟩, ⟨some 2, none, .mv (.t 7)⟩]) .ret))
theorem code_math_bits_OnesCount : HasCode Try.prog fn_math_bits_OnesCount mc_math_bits_OnesCount [.t 2] 8 := ⟨mixed, Try.f92, _, Try.func92, rfl, by kernel_rfl, by kernel_rfl, rfl, by kernel_rfl⟩

def mc_math_bits_OnesCount64 : MC :=
  .seq (.reg [⟨some 2, none, .mv (.c (.int .i64 0))⟩]) (.seq (.reg [⟨some 3, none, .mv (.t 0)⟩, ⟨some 4, none, .bin .shr (.t 3) (.c (.int .u64 1))⟩, ⟨some 5, none, .bin .and (.t 4) (.c (.int .u64 6148914691236517205))⟩, ⟨some 6, none, .mv (.t 0)⟩, ⟨some 7, none, .bin .and (.t 6) (.c (.int .u64 6148914691236517205))⟩, ⟨some 8, none, .bin .add (.t 5) (.t 7)⟩, ⟨some 0, none, .mv (.t 8)⟩]) (.seq (.reg [⟨some 9, none, .mv (.t 0)⟩, ⟨some 10, none, .bin .shr (.t 9) (.c (.int .u64 2))⟩, ⟨some 11, none, .bin .and (.t 10) (.c (.int .u64 3689348814741910323))⟩, ⟨some 12, none, .mv (.t 0)⟩, ⟨some 13, none, .bin .and (.t 12) (.c (.int .u64 3689348814741910323))⟩, ⟨some 14, none, .bin .add (.t 11) (.t 13)⟩, ⟨some 0, none, .mv (.t 14)⟩]) (.seq (.reg [⟨some 15, none, .mv (.t 0)⟩, ⟨some 16, none, .bin .shr (.t 15) (.c (.int .u64 4))⟩, ⟨some 17, none, .mv (.t 0)⟩, ⟨some 18, none, .bin .add (.t 16) (.t 17)⟩, ⟨some 19, none, .bin .and (.t 18) (.c (.int .u64 1085102592571150095))⟩, ⟨some 0, none, .mv (.t 19)⟩]) (.seq (.reg [⟨some 20, none, .mv (.t 0)⟩, ⟨some 21, none, .mv (.t 0)⟩, ⟨some 22, none, .bin .shr (.t 21) (.c (.int .u64 8))⟩, ⟨some 23, none, .bin .add (.t 20) (.t 22)⟩, ⟨some 0, none, .mv (.t 23)⟩]) (.seq (.reg [⟨some 24, none, .mv (.t 0)⟩, ⟨some 25, none, .mv (.t 0)⟩, ⟨some 26, none, .bin .shr (.t 25) (.c (.int .u64 16))⟩, ⟨some 27, none, .bin .add (.t 24) (.t 26)⟩, ⟨some 0, none, .mv (.t 27)⟩]) (.seq (.reg [⟨some 28, none, .mv (.t 0)⟩, ⟨some 29, none, .mv (.t 0)⟩, ⟨some 30, none, .bin .shr (.t 29) (.c (.int .u64 32))⟩, ⟨some 31, none, .bin .add (.t 28) (.t 30)⟩, ⟨some 0, none, .mv (.t 31)⟩]) (.seq (.reg [⟨some 32, none, .mv (.t 0)⟩, ⟨some 33, none, .conv .i64 (.t 32)⟩, ⟨some 34, none, .bin .and (.t 33) (.c (.int .i64 127))⟩, ⟨some 2, none, .mv (.t 34)⟩]) .ret)))))))
theorem code_math_bits_OnesCount64 : HasCode Try.prog fn_math_bits_OnesCount64 mc_math_bits_OnesCount64 [.t 2] 35 := ⟨mixed, Try.f99, _, Try.func99, rfl, by kernel_rfl, by kernel_rfl, rfl, by kernel_rfl⟩

end Go.Rx.Try
