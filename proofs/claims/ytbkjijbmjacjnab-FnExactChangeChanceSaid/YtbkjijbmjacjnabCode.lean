/-
  The code of each function of the program, taken up. Made by a program.
-/
import Derived.Test.YtbkjijbmjacjnabProg
import Derived.Test.YtbkjijbmjacjnabRxI
import Derived.KernelRfl
namespace Go.Rx.Try
open Go.Proofs
set_option maxRecDepth 100000

abbrev fn_laws_FnExactFourWays : FuncId := 3
abbrev fn_laws_FnExactFoursLike : FuncId := 4
abbrev fn_laws_FnExactFourChance : FuncId := 5
abbrev fn_laws_FnExactFourBoth : FuncId := 6
abbrev fn_laws_FnExactTablesWith : FuncId := 7
abbrev fn_laws_FnExactChangeChance : FuncId := 8
abbrev fn_spec_FourWays : FuncId := 9
abbrev fn_laws_toFour : FuncId := 10
abbrev fn_impl_FourWays : FuncId := 11
abbrev fn_spec_FoursLike : FuncId := 12
abbrev fn_impl_FoursLike : FuncId := 13
abbrev fn_laws_eqIntS : FuncId := 14
abbrev fn_laws_markIntS : FuncId := 15
abbrev fn_laws_heldIntS : FuncId := 16
abbrev fn_spec_FourChance : FuncId := 17
abbrev fn_impl_FourChance : FuncId := 18
abbrev fn_spec_FourBoth : FuncId := 19
abbrev fn_impl_FourBoth : FuncId := 20
abbrev fn_spec_TablesWith : FuncId := 21
abbrev fn_laws_toIntS : FuncId := 22
abbrev fn_impl_TablesWith : FuncId := 23
abbrev fn_spec_ChangeChance : FuncId := 24
abbrev fn_impl_ChangeChance : FuncId := 25
abbrev fn_spec_validFour : FuncId := 26
abbrev fn_spec_fourWays : FuncId := 27
abbrev fn_spec_choose : FuncId := 28
abbrev fn_impl_Four_valid : FuncId := 29
abbrev fn_impl_Four_ways : FuncId := 30
abbrev fn_impl_choose : FuncId := 31
abbrev fn_spec_whole : FuncId := 32
abbrev fn_spec_shifted : FuncId := 33
abbrev fn_impl_Four_alike : FuncId := 34
abbrev fn_impl_Four_waysAlike : FuncId := 35
abbrev fn_impl_Four_reachedBy : FuncId := 36
abbrev fn_impl_Four_matchedBy : FuncId := 37
abbrev fn_spec_validSums : FuncId := 38
abbrev fn_spec_sum : FuncId := 39
abbrev fn_spec_countTables : FuncId := 40
abbrev fn_impl_sumOf : FuncId := 41
abbrev fn_impl_sums_fill : FuncId := 42
abbrev fn_spec_inRange : FuncId := 43
abbrev fn_spec_power : FuncId := 44
abbrev fn_impl_Four_moved : FuncId := 45
abbrev fn_spec_rowsFrom : FuncId := 46
abbrev fn_spec_factorial : FuncId := 47
abbrev fn_impl_sums_without : FuncId := 48
abbrev fn_runtime_boundsError_Error : FuncId := 49
abbrev fn_runtime_boundsError_RuntimeError : FuncId := 50
abbrev fn_runtime_errorString_Error : FuncId := 51
abbrev fn_runtime_errorString_RuntimeError : FuncId := 52
abbrev fn_runtime_plainError_Error : FuncId := 53
abbrev fn_runtime_plainError_RuntimeError : FuncId := 54
abbrev fn_runtime_errorAddressString_Error : FuncId := 55
abbrev fn_runtime_errorAddressString_RuntimeError : FuncId := 56
abbrev fn_runtime_TypeAssertionError_Error : FuncId := 57
abbrev fn_runtime_TypeAssertionError_RuntimeError : FuncId := 58
abbrev fn_runtime_PanicNilError_Error : FuncId := 59
abbrev fn_runtime_PanicNilError_RuntimeError : FuncId := 60
abbrev fn_internal_abi_Type_Align : FuncId := 61
abbrev fn_internal_runtime_maps_unhashableTypeError_Error : FuncId := 62
abbrev fn_internal_runtime_maps_unhashableTypeError_RuntimeError : FuncId := 63
abbrev fn_internal_abi_Kind_String : FuncId := 64
theorem mixed : Try.prog.follows .mixedOrders = true := by kernel_rfl

def mc_laws_FnExactChangeChance : MC :=
  .seq (.reg [⟨some 4, none, .mv (.c (.bool false))⟩]) (.seq (.reg [⟨some 10, none, .mv (.t 0)⟩, ⟨some 11, none, .mv (.t 1)⟩, ⟨some 12, none, .call fn_spec_ChangeChance [.t 10, .t 11]⟩, ⟨some 9, none, .mv (.t 12)⟩, ⟨some 13, none, .ext (.t 9) 0⟩, ⟨some 14, none, .ext (.t 9) 1⟩, ⟨some 5, none, .mv (.t 13)⟩, ⟨some 6, none, .mv (.t 14)⟩]) (.seq (.reg [⟨some 16, none, .mv (.t 0)⟩, ⟨some 17, none, .mv (.t 1)⟩, ⟨some 18, none, .call fn_impl_ChangeChance [.t 16, .t 17]⟩, ⟨some 15, none, .mv (.t 18)⟩, ⟨some 19, none, .ext (.t 15) 0⟩, ⟨some 20, none, .ext (.t 15) 1⟩, ⟨some 7, none, .mv (.t 19)⟩, ⟨some 8, none, .mv (.t 20)⟩]) (.seq (.seq (.reg [⟨some 21, none, .mv (.t 7)⟩, ⟨some 22, none, .mv (.t 5)⟩, ⟨some 23, none, .bin .neq (.t 21) (.t 22)⟩, ⟨some 24, none, .mv (.t 23)⟩, ⟨some 25, some (24, false), .mv (.t 8)⟩, ⟨some 26, some (24, false), .mv (.t 6)⟩, ⟨some 27, some (24, false), .bin .neq (.t 25) (.t 26)⟩, ⟨some 28, none, .pick (.t 24) (.c (.bool true)) (.t 27)⟩]) (.cond (.t 28) (.seq (.reg [⟨some 4, none, .mv (.c (.bool false))⟩]) .ret) .skip)) (.seq (.reg [⟨some 4, none, .mv (.c (.bool true))⟩]) .ret))))
theorem code_laws_FnExactChangeChance : HasCode Try.prog fn_laws_FnExactChangeChance mc_laws_FnExactChangeChance [.t 4] 29 := ⟨mixed, Try.f8, _, Try.func8, rfl, by kernel_rfl, by kernel_rfl, rfl, by kernel_rfl⟩

def mc_spec_ChangeChance : MC :=
  .seq (.reg [⟨some 4, none, .mv (.c (.int .i64 0))⟩, ⟨some 5, none, .mv (.c (.int .i64 0))⟩]) (.seq (.seq (.reg [⟨some 9, none, .mv (.t 0)⟩, ⟨some 10, none, .call fn_spec_inRange [.t 9, .c (.int .i64 0), .c (.int .i64 8)]⟩, ⟨some 11, none, .un .not (.t 10)⟩, ⟨some 12, none, .mv (.t 11)⟩, ⟨some 13, some (12, false), .mv (.t 1)⟩, ⟨some 14, some (12, false), .call fn_spec_inRange [.t 13, .c (.int .i64 0), .c (.int .i64 8)]⟩, ⟨some 15, some (12, false), .un .not (.t 14)⟩, ⟨some 16, none, .pick (.t 12) (.c (.bool true)) (.t 15)⟩]) (.cond (.t 16) (.seq (.reg [⟨some 4, none, .mv (.c (.int .i64 (-1)))⟩, ⟨some 5, none, .mv (.c (.int .i64 (-1)))⟩]) .ret) .skip)) (.seq (.reg [⟨some 17, none, .mv (.t 0)⟩, ⟨some 18, none, .mv (.t 1)⟩, ⟨some 19, none, .bin .add (.t 17) (.t 18)⟩, ⟨some 6, none, .mv (.t 19)⟩]) (.seq (.reg [⟨some 7, none, .mv (.c (.int .i64 0))⟩]) (.seq (.seq (.reg [⟨some 8, none, .mv (.c (.int .i64 0))⟩]) (.block 0 (.loop (.seq (.seq (.reg [⟨some 20, none, .mv (.t 8)⟩, ⟨some 21, none, .mv (.t 6)⟩, ⟨some 22, none, .bin .leq (.t 20) (.t 21)⟩]) (.cond (.t 22) .skip (.exit 0))) (.seq (.block 1 (.seq (.reg [⟨some 25, none, .mv (.t 8)⟩, ⟨some 26, none, .mv (.t 6)⟩, ⟨some 27, none, .mv (.t 8)⟩, ⟨some 28, none, .bin .sub (.t 26) (.t 27)⟩, ⟨some 29, none, .mnmx true (.t 25) [.t 28]⟩, ⟨some 30, none, .mv (.t 0)⟩, ⟨some 31, none, .mv (.t 1)⟩, ⟨some 32, none, .mnmx true (.t 30) [.t 31]⟩, ⟨some 33, none, .bin .geq (.t 29) (.t 32)⟩]) (.cond (.t 33) (.reg [⟨some 34, none, .mv (.t 7)⟩, ⟨some 35, none, .mv (.t 6)⟩, ⟨some 36, none, .mv (.t 8)⟩, ⟨some 37, none, .call fn_spec_choose [.t 35, .t 36]⟩, ⟨some 38, none, .bin .add (.t 34) (.t 37)⟩, ⟨some 7, none, .mv (.t 38)⟩]) .skip))) (.reg [⟨some 23, none, .mv (.t 8)⟩, ⟨some 24, none, .bin .add (.t 23) (.c (.int .i64 1))⟩, ⟨some 8, none, .mv (.t 24)⟩])))))) (.seq (.reg [⟨some 39, none, .mv (.t 7)⟩, ⟨some 40, none, .mv (.t 6)⟩, ⟨some 41, none, .call fn_spec_power [.t 40]⟩, ⟨some 4, none, .mv (.t 39)⟩, ⟨some 5, none, .mv (.t 41)⟩]) .ret)))))
theorem code_spec_ChangeChance : HasCode Try.prog fn_spec_ChangeChance mc_spec_ChangeChance [.t 4, .t 5] 42 := ⟨mixed, Try.f24, _, Try.func24, rfl, by kernel_rfl, by kernel_rfl, rfl, by kernel_rfl⟩

def mc_impl_ChangeChance : MC :=
  .seq (.reg [⟨some 4, none, .mv (.c (.int .i64 0))⟩, ⟨some 5, none, .mv (.c (.int .i64 0))⟩]) (.seq (.seq (.reg [⟨some 9, none, .mv (.t 0)⟩, ⟨some 10, none, .mv (.t 1)⟩, ⟨some 11, none, .mnmx false (.t 9) [.t 10]⟩, ⟨some 12, none, .bin .lss (.t 11) (.c (.int .i64 0))⟩, ⟨some 13, none, .mv (.t 12)⟩, ⟨some 14, some (13, false), .mv (.t 0)⟩, ⟨some 15, some (13, false), .mv (.t 1)⟩, ⟨some 16, some (13, false), .mnmx true (.t 14) [.t 15]⟩, ⟨some 17, some (13, false), .bin .gtr (.t 16) (.c (.int .i64 8))⟩, ⟨some 18, none, .pick (.t 13) (.c (.bool true)) (.t 17)⟩]) (.cond (.t 18) (.seq (.reg [⟨some 4, none, .mv (.c (.int .i64 (-1)))⟩, ⟨some 5, none, .mv (.c (.int .i64 (-1)))⟩]) .ret) .skip)) (.seq (.reg [⟨some 19, none, .mv (.t 0)⟩, ⟨some 20, none, .mv (.t 1)⟩, ⟨some 21, none, .bin .add (.t 19) (.t 20)⟩, ⟨some 6, none, .mv (.t 21)⟩]) (.seq (.reg [⟨some 7, none, .mv (.c (.int .i64 0))⟩]) (.seq (.seq (.reg [⟨some 22, none, .mv (.t 6)⟩, ⟨some 23, none, .bin .add (.t 22) (.c (.int .i64 1))⟩, ⟨some 24, none, .mv (.c (.int .i64 0))⟩]) (.block 0 (.loop (.seq (.reg [⟨some 25, none, .bin .lss (.t 24) (.t 23)⟩]) (.seq (.cond (.t 25) .skip (.exit 0)) (.seq (.block 1 (.seq (.reg [⟨some 26, none, .mv (.t 24)⟩, ⟨some 8, none, .mv (.t 26)⟩]) (.seq (.reg [⟨some 27, none, .mv (.t 8)⟩, ⟨some 28, none, .mv (.t 6)⟩, ⟨some 29, none, .mv (.t 8)⟩, ⟨some 30, none, .bin .sub (.t 28) (.t 29)⟩, ⟨some 31, none, .mnmx true (.t 27) [.t 30]⟩, ⟨some 32, none, .mv (.t 0)⟩, ⟨some 33, none, .mv (.t 1)⟩, ⟨some 34, none, .mnmx true (.t 32) [.t 33]⟩, ⟨some 35, none, .bin .geq (.t 31) (.t 34)⟩]) (.cond (.t 35) (.reg [⟨some 36, none, .mv (.t 7)⟩, ⟨some 37, none, .mv (.t 6)⟩, ⟨some 38, none, .mv (.t 8)⟩, ⟨some 39, none, .call fn_impl_choose [.t 37, .t 38]⟩, ⟨some 40, none, .bin .add (.t 36) (.t 39)⟩, ⟨some 7, none, .mv (.t 40)⟩]) .skip)))) (.reg [⟨some 41, none, .bin .add (.t 24) (.c (.int .i64 1))⟩, ⟨some 24, none, .mv (.t 41)⟩]))))))) (.seq (.drq [⟨some 42, none, .mv (.t 7)⟩, ⟨some 43, none, .mv (.t 6)⟩, ⟨some 44, none, .bin .shl (.c (.int .i64 1)) (.t 43)⟩, ⟨some 4, none, .mv (.t 42)⟩, ⟨some 5, none, .mv (.t 44)⟩]) .ret)))))
theorem code_impl_ChangeChance : HasCode Try.prog fn_impl_ChangeChance mc_impl_ChangeChance [.t 4, .t 5] 45 := ⟨mixed, Try.f25, _, Try.func25, rfl, by kernel_rfl, by kernel_rfl, rfl, by kernel_rfl⟩

def mc_spec_choose : MC :=
  .seq (.reg [⟨some 4, none, .mv (.c (.int .i64 0))⟩]) (.seq (.seq (.reg [⟨some 7, none, .mv (.t 1)⟩, ⟨some 8, none, .bin .lss (.t 7) (.c (.int .i64 0))⟩, ⟨some 9, none, .mv (.t 8)⟩, ⟨some 10, some (9, false), .mv (.t 1)⟩, ⟨some 11, some (9, false), .mv (.t 0)⟩, ⟨some 12, some (9, false), .bin .gtr (.t 10) (.t 11)⟩, ⟨some 13, none, .pick (.t 9) (.c (.bool true)) (.t 12)⟩]) (.cond (.t 13) (.seq (.reg [⟨some 4, none, .mv (.c (.int .i64 0))⟩]) .ret) .skip)) (.seq (.reg [⟨some 5, none, .mv (.c (.int .i64 1))⟩]) (.seq (.seq (.reg [⟨some 6, none, .mv (.c (.int .i64 0))⟩]) (.block 0 (.loop (.seq (.seq (.reg [⟨some 14, none, .mv (.t 6)⟩, ⟨some 15, none, .mv (.t 1)⟩, ⟨some 16, none, .bin .lss (.t 14) (.t 15)⟩]) (.cond (.t 16) .skip (.exit 0))) (.seq (.block 1 (.reg [⟨some 19, none, .mv (.t 5)⟩, ⟨some 20, none, .mv (.t 0)⟩, ⟨some 21, none, .mv (.t 6)⟩, ⟨some 22, none, .bin .sub (.t 20) (.t 21)⟩, ⟨some 23, none, .bin .mul (.t 19) (.t 22)⟩, ⟨some 24, none, .mv (.t 6)⟩, ⟨some 25, none, .bin .add (.t 24) (.c (.int .i64 1))⟩, ⟨some 26, none, .bin .quo (.t 23) (.t 25)⟩, ⟨some 5, none, .mv (.t 26)⟩])) (.reg [⟨some 17, none, .mv (.t 6)⟩, ⟨some 18, none, .bin .add (.t 17) (.c (.int .i64 1))⟩, ⟨some 6, none, .mv (.t 18)⟩])))))) (.seq (.reg [⟨some 27, none, .mv (.t 5)⟩, ⟨some 4, none, .mv (.t 27)⟩]) .ret))))
theorem code_spec_choose : HasCode Try.prog fn_spec_choose mc_spec_choose [.t 4] 28 := ⟨mixed, Try.f28, _, Try.func28, rfl, by kernel_rfl, by kernel_rfl, rfl, by kernel_rfl⟩

def mc_impl_choose : MC :=
  .seq (.reg [⟨some 4, none, .mv (.c (.int .i64 0))⟩]) (.seq (.reg [⟨some 5, none, .mv (.c (.int .i64 1))⟩]) (.seq (.seq (.reg [⟨some 7, none, .mv (.t 1)⟩, ⟨some 8, none, .mv (.c (.int .i64 0))⟩]) (.block 0 (.loop (.seq (.reg [⟨some 9, none, .bin .lss (.t 8) (.t 7)⟩]) (.seq (.cond (.t 9) .skip (.exit 0)) (.seq (.block 1 (.seq (.reg [⟨some 10, none, .mv (.t 8)⟩, ⟨some 6, none, .mv (.t 10)⟩]) (.reg [⟨some 11, none, .mv (.t 5)⟩, ⟨some 12, none, .mv (.t 0)⟩, ⟨some 13, none, .mv (.t 6)⟩, ⟨some 14, none, .bin .sub (.t 12) (.t 13)⟩, ⟨some 15, none, .bin .mul (.t 11) (.t 14)⟩, ⟨some 16, none, .mv (.t 6)⟩, ⟨some 17, none, .bin .add (.t 16) (.c (.int .i64 1))⟩, ⟨some 18, none, .bin .quo (.t 15) (.t 17)⟩, ⟨some 5, none, .mv (.t 18)⟩]))) (.reg [⟨some 19, none, .bin .add (.t 8) (.c (.int .i64 1))⟩, ⟨some 8, none, .mv (.t 19)⟩]))))))) (.seq (.reg [⟨some 20, none, .mv (.t 5)⟩, ⟨some 4, none, .mv (.t 20)⟩]) .ret)))
theorem code_impl_choose : HasCode Try.prog fn_impl_choose mc_impl_choose [.t 4] 21 := ⟨mixed, Try.f31, _, Try.func31, rfl, by kernel_rfl, by kernel_rfl, rfl, by kernel_rfl⟩

def mc_spec_inRange : MC :=
  .seq (.reg [⟨some 6, none, .mv (.c (.bool false))⟩]) (.seq (.reg [⟨some 7, none, .mv (.t 1)⟩, ⟨some 8, none, .mv (.t 0)⟩, ⟨some 9, none, .bin .leq (.t 7) (.t 8)⟩, ⟨some 10, none, .mv (.t 9)⟩, ⟨some 11, some (10, true), .mv (.t 0)⟩, ⟨some 12, some (10, true), .mv (.t 2)⟩, ⟨some 13, some (10, true), .bin .leq (.t 11) (.t 12)⟩, ⟨some 14, none, .pick (.t 10) (.t 13) (.c (.bool false))⟩, ⟨some 6, none, .mv (.t 14)⟩]) .ret)
theorem code_spec_inRange : HasCode Try.prog fn_spec_inRange mc_spec_inRange [.t 6] 15 := ⟨mixed, Try.f43, _, Try.func43, rfl, by kernel_rfl, by kernel_rfl, rfl, by kernel_rfl⟩

def mc_spec_power : MC :=
  .seq (.reg [⟨some 2, none, .mv (.c (.int .i64 0))⟩]) (.seq (.reg [⟨some 3, none, .mv (.c (.int .i64 1))⟩]) (.seq (.block 0 (.loop (.seq (.seq (.reg [⟨some 4, none, .mv (.t 0)⟩, ⟨some 5, none, .bin .gtr (.t 4) (.c (.int .i64 0))⟩]) (.cond (.t 5) .skip (.exit 0))) (.seq (.block 1 (.reg [⟨some 8, none, .mv (.t 3)⟩, ⟨some 9, none, .bin .mul (.c (.int .i64 2)) (.t 8)⟩, ⟨some 3, none, .mv (.t 9)⟩])) (.reg [⟨some 6, none, .mv (.t 0)⟩, ⟨some 7, none, .bin .sub (.t 6) (.c (.int .i64 1))⟩, ⟨some 0, none, .mv (.t 7)⟩]))))) (.seq (.reg [⟨some 10, none, .mv (.t 3)⟩, ⟨some 2, none, .mv (.t 10)⟩]) .ret)))
theorem code_spec_power : HasCode Try.prog fn_spec_power mc_spec_power [.t 2] 11 := ⟨mixed, Try.f44, _, Try.func44, rfl, by kernel_rfl, by kernel_rfl, rfl, by kernel_rfl⟩

end Go.Rx.Try
