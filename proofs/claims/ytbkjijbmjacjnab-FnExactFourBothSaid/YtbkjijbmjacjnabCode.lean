/-
  The code of each function of the program, taken up. Made by a program.
-/
import Derived.Test.YtbkjijbmjacjnabProg
import Derived.Test.YtbkjijbmjacjnabRxI
import Derived.KernelRfl
namespace Go.Rx.Try
open Go.Proofs
set_option maxRecDepth 100000

abbrev fn_laws_FnExactFourWays : FuncId := 3
abbrev fn_laws_FnExactFoursLike : FuncId := 4
abbrev fn_laws_FnExactFourChance : FuncId := 5
abbrev fn_laws_FnExactFourBoth : FuncId := 6
abbrev fn_laws_FnExactTablesWith : FuncId := 7
abbrev fn_laws_FnExactChangeChance : FuncId := 8
abbrev fn_spec_FourWays : FuncId := 9
abbrev fn_laws_toFour : FuncId := 10
abbrev fn_impl_FourWays : FuncId := 11
abbrev fn_spec_FoursLike : FuncId := 12
abbrev fn_impl_FoursLike : FuncId := 13
abbrev fn_laws_eqIntS : FuncId := 14
abbrev fn_laws_markIntS : FuncId := 15
abbrev fn_laws_heldIntS : FuncId := 16
abbrev fn_spec_FourChance : FuncId := 17
abbrev fn_impl_FourChance : FuncId := 18
abbrev fn_spec_FourBoth : FuncId := 19
abbrev fn_impl_FourBoth : FuncId := 20
abbrev fn_spec_TablesWith : FuncId := 21
abbrev fn_laws_toIntS : FuncId := 22
abbrev fn_impl_TablesWith : FuncId := 23
abbrev fn_spec_ChangeChance : FuncId := 24
abbrev fn_impl_ChangeChance : FuncId := 25
abbrev fn_spec_validFour : FuncId := 26
abbrev fn_spec_fourWays : FuncId := 27
abbrev fn_spec_choose : FuncId := 28
abbrev fn_impl_Four_valid : FuncId := 29
abbrev fn_impl_Four_ways : FuncId := 30
abbrev fn_impl_choose : FuncId := 31
abbrev fn_spec_whole : FuncId := 32
abbrev fn_spec_shifted : FuncId := 33
abbrev fn_impl_Four_alike : FuncId := 34
abbrev fn_impl_Four_waysAlike : FuncId := 35
abbrev fn_impl_Four_reachedBy : FuncId := 36
abbrev fn_impl_Four_matchedBy : FuncId := 37
abbrev fn_spec_validSums : FuncId := 38
abbrev fn_spec_sum : FuncId := 39
abbrev fn_spec_countTables : FuncId := 40
abbrev fn_impl_sumOf : FuncId := 41
abbrev fn_impl_sums_fill : FuncId := 42
abbrev fn_spec_inRange : FuncId := 43
abbrev fn_spec_power : FuncId := 44
abbrev fn_impl_Four_moved : FuncId := 45
abbrev fn_spec_rowsFrom : FuncId := 46
abbrev fn_spec_factorial : FuncId := 47
abbrev fn_impl_sums_without : FuncId := 48
abbrev fn_runtime_boundsError_Error : FuncId := 49
abbrev fn_runtime_boundsError_RuntimeError : FuncId := 50
abbrev fn_runtime_errorString_Error : FuncId := 51
abbrev fn_runtime_errorString_RuntimeError : FuncId := 52
abbrev fn_runtime_plainError_Error : FuncId := 53
abbrev fn_runtime_plainError_RuntimeError : FuncId := 54
abbrev fn_runtime_errorAddressString_Error : FuncId := 55
abbrev fn_runtime_errorAddressString_RuntimeError : FuncId := 56
abbrev fn_runtime_TypeAssertionError_Error : FuncId := 57
abbrev fn_runtime_TypeAssertionError_RuntimeError : FuncId := 58
abbrev fn_runtime_PanicNilError_Error : FuncId := 59
abbrev fn_runtime_PanicNilError_RuntimeError : FuncId := 60
abbrev fn_internal_abi_Type_Align : FuncId := 61
abbrev fn_internal_runtime_maps_unhashableTypeError_Error : FuncId := 62
abbrev fn_internal_runtime_maps_unhashableTypeError_RuntimeError : FuncId := 63
abbrev fn_internal_abi_Kind_String : FuncId := 64
theorem mixed : Try.prog.follows .mixedOrders = true := by kernel_rfl

def mc_laws_FnExactFourBoth : MC :=
  .seq (.reg [⟨some 1, none, .box (.t 0)⟩, ⟨some 2, none, .mv (.c (.bool false))⟩]) (.seq (.reg [⟨some 8, none, .ld (.t 1) 4 true⟩, ⟨some 9, none, .call fn_laws_toFour [.t 8]⟩, ⟨some 10, none, .call fn_spec_FourBoth [.t 9]⟩, ⟨some 7, none, .mv (.t 10)⟩, ⟨some 11, none, .ext (.t 7) 0⟩, ⟨some 12, none, .ext (.t 7) 1⟩, ⟨some 3, none, .mv (.t 11)⟩, ⟨some 4, none, .mv (.t 12)⟩]) (.seq (.reg [⟨some 14, none, .ld (.t 1) 4 true⟩, ⟨some 15, none, .call fn_laws_toFour [.t 14]⟩, ⟨some 16, none, .call fn_impl_FourBoth [.t 15]⟩, ⟨some 13, none, .mv (.t 16)⟩, ⟨some 17, none, .ext (.t 13) 0⟩, ⟨some 18, none, .ext (.t 13) 1⟩, ⟨some 5, none, .mv (.t 17)⟩, ⟨some 6, none, .mv (.t 18)⟩]) (.seq (.seq (.reg [⟨some 19, none, .mv (.t 5)⟩, ⟨some 20, none, .mv (.t 3)⟩, ⟨some 21, none, .bin .neq (.t 19) (.t 20)⟩, ⟨some 22, none, .mv (.t 21)⟩, ⟨some 23, some (22, false), .mv (.t 6)⟩, ⟨some 24, some (22, false), .mv (.t 4)⟩, ⟨some 25, some (22, false), .bin .neq (.t 23) (.t 24)⟩, ⟨some 26, none, .pick (.t 22) (.c (.bool true)) (.t 25)⟩]) (.cond (.t 26) (.seq (.reg [⟨some 2, none, .mv (.c (.bool false))⟩]) .ret) .skip)) (.seq (.reg [⟨some 2, none, .mv (.c (.bool true))⟩]) .ret))))
theorem code_laws_FnExactFourBoth : HasCode Try.prog fn_laws_FnExactFourBoth mc_laws_FnExactFourBoth [.t 2] 27 := ⟨mixed, Try.f6, _, Try.func6, rfl, by kernel_rfl, by kernel_rfl, rfl, by kernel_rfl⟩

def mc_laws_toFour : MC :=
  .seq (.reg [⟨some 1, none, .box (.t 0)⟩, ⟨some 2, none, .new [.int .i64 0, .int .i64 0, .int .i64 0, .int .i64 0]⟩]) (.seq (.reg [⟨some 3, none, .new [.int .i64 0, .int .i64 0, .int .i64 0, .int .i64 0]⟩]) (.seq (.reg [⟨some 4, none, .fa (.t 1) 0⟩, ⟨some 5, none, .ld (.t 4) 1 false⟩, ⟨some 6, none, .fa (.t 3) 0⟩, ⟨none, none, .st (.t 6) (.t 5) 1⟩]) (.seq (.reg [⟨some 7, none, .fa (.t 1) 1⟩, ⟨some 8, none, .ld (.t 7) 1 false⟩, ⟨some 9, none, .fa (.t 3) 1⟩, ⟨none, none, .st (.t 9) (.t 8) 1⟩]) (.seq (.reg [⟨some 10, none, .fa (.t 1) 2⟩, ⟨some 11, none, .ld (.t 10) 1 false⟩, ⟨some 12, none, .fa (.t 3) 2⟩, ⟨none, none, .st (.t 12) (.t 11) 1⟩]) (.seq (.reg [⟨some 13, none, .fa (.t 1) 3⟩, ⟨some 14, none, .ld (.t 13) 1 false⟩, ⟨some 15, none, .fa (.t 3) 3⟩, ⟨none, none, .st (.t 15) (.t 14) 1⟩]) (.seq (.reg [⟨some 16, none, .ld (.t 3) 4 true⟩, ⟨none, none, .st (.t 2) (.t 16) 4⟩]) .ret))))))
theorem code_laws_toFour : HasCode Try.prog fn_laws_toFour mc_laws_toFour [.c 2 4 true] 17 := ⟨mixed, Try.f10, _, Try.func10, rfl, by kernel_rfl, by kernel_rfl, rfl, by kernel_rfl⟩

def mc_spec_FoursLike : MC :=
  .seq (.reg [⟨some 1, none, .box (.t 0)⟩, ⟨some 2, none, .mv (.c .nilSlice)⟩]) (.seq (.seq (.reg [⟨some 5, none, .ld (.t 1) 4 true⟩, ⟨some 6, none, .call fn_spec_validFour [.t 5]⟩, ⟨some 7, none, .un .not (.t 6)⟩]) (.cond (.t 7) (.seq (.reg [⟨some 2, none, .mv (.c .nilSlice)⟩]) .ret) .skip)) (.seq (.reg [⟨some 8, none, .bsl 0 1 [.int .i64 0] []⟩, ⟨some 3, none, .mv (.t 8)⟩]) (.seq (.seq (.reg [⟨some 4, none, .mv (.c (.int .i64 0))⟩]) (.block 0 (.loop (.seq (.seq (.reg [⟨some 9, none, .mv (.t 4)⟩, ⟨some 10, none, .fa (.t 1) 0⟩, ⟨some 11, none, .ld (.t 10) 1 false⟩, ⟨some 12, none, .fa (.t 1) 1⟩, ⟨some 13, none, .ld (.t 12) 1 false⟩, ⟨some 14, none, .bin .add (.t 11) (.t 13)⟩, ⟨some 15, none, .bin .leq (.t 9) (.t 14)⟩]) (.cond (.t 15) .skip (.exit 0))) (.seq (.block 1 (.seq (.reg [⟨some 18, none, .ld (.t 1) 4 true⟩, ⟨some 19, none, .mv (.t 4)⟩, ⟨some 20, none, .call fn_spec_shifted [.t 18, .t 19]⟩, ⟨some 21, none, .call fn_spec_whole [.t 20]⟩]) (.cond (.t 21) (.reg [⟨some 22, none, .mv (.t 3)⟩, ⟨some 23, none, .mv (.t 4)⟩, ⟨some 24, none, .bsl 1 1 [.int .i64 0] [(0, .t 23)]⟩, ⟨some 25, none, .app (.t 22) (.t 24) 1 8⟩, ⟨some 3, none, .mv (.t 25)⟩]) .skip))) (.reg [⟨some 16, none, .mv (.t 4)⟩, ⟨some 17, none, .bin .add (.t 16) (.c (.int .i64 1))⟩, ⟨some 4, none, .mv (.t 17)⟩])))))) (.seq (.reg [⟨some 26, none, .mv (.t 3)⟩, ⟨some 2, none, .mv (.t 26)⟩]) .ret))))
theorem code_spec_FoursLike : HasCode Try.prog fn_spec_FoursLike mc_spec_FoursLike [.t 2] 27 := ⟨mixed, Try.f12, _, Try.func12, rfl, by kernel_rfl, by kernel_rfl, rfl, by kernel_rfl⟩

def mc_spec_FourBoth : MC :=
  .seq (.reg [⟨some 1, none, .box (.t 0)⟩, ⟨some 2, none, .mv (.c (.int .i64 0))⟩, ⟨some 3, none, .mv (.c (.int .i64 0))⟩]) (.seq (.seq (.reg [⟨some 9, none, .ld (.t 1) 4 true⟩, ⟨some 10, none, .call fn_spec_validFour [.t 9]⟩, ⟨some 11, none, .un .not (.t 10)⟩]) (.cond (.t 11) (.seq (.reg [⟨some 2, none, .mv (.c (.int .i64 (-1)))⟩, ⟨some 3, none, .mv (.c (.int .i64 (-1)))⟩]) .ret) .skip)) (.seq (.reg [⟨some 12, none, .ld (.t 1) 4 true⟩, ⟨some 13, none, .call fn_spec_FoursLike [.t 12]⟩, ⟨some 4, none, .mv (.t 13)⟩]) (.seq (.reg [⟨some 5, none, .mv (.c (.int .i64 0))⟩]) (.seq (.reg [⟨some 6, none, .mv (.c (.int .i64 0))⟩]) (.seq (.seq (.reg [⟨some 7, none, .mv (.c (.int .i64 0))⟩]) (.block 0 (.loop (.seq (.seq (.reg [⟨some 14, none, .mv (.t 7)⟩, ⟨some 15, none, .mv (.t 4)⟩, ⟨some 16, none, .len (.t 15)⟩, ⟨some 17, none, .bin .lss (.t 14) (.t 16)⟩]) (.cond (.t 17) .skip (.exit 0))) (.seq (.block 1 (.seq (.drq [⟨some 20, none, .ld (.t 1) 4 true⟩, ⟨some 21, none, .mv (.t 4)⟩, ⟨some 22, none, .mv (.t 7)⟩, ⟨some 23, none, .ixa (.t 21) (.t 22) 1⟩, ⟨some 24, none, .ld (.t 23) 1 false⟩, ⟨some 25, none, .call fn_spec_shifted [.t 20, .t 24]⟩, ⟨some 26, none, .call fn_spec_fourWays [.t 25]⟩, ⟨some 8, none, .mv (.t 26)⟩]) (.seq (.reg [⟨some 27, none, .mv (.t 6)⟩, ⟨some 28, none, .mv (.t 8)⟩, ⟨some 29, none, .bin .add (.t 27) (.t 28)⟩, ⟨some 6, none, .mv (.t 29)⟩]) (.seq (.reg [⟨some 30, none, .mv (.t 8)⟩, ⟨some 31, none, .ld (.t 1) 4 true⟩, ⟨some 32, none, .call fn_spec_fourWays [.t 31]⟩, ⟨some 33, none, .bin .leq (.t 30) (.t 32)⟩]) (.cond (.t 33) (.reg [⟨some 34, none, .mv (.t 5)⟩, ⟨some 35, none, .mv (.t 8)⟩, ⟨some 36, none, .bin .add (.t 34) (.t 35)⟩, ⟨some 5, none, .mv (.t 36)⟩]) .skip))))) (.reg [⟨some 18, none, .mv (.t 7)⟩, ⟨some 19, none, .bin .add (.t 18) (.c (.int .i64 1))⟩, ⟨some 7, none, .mv (.t 19)⟩])))))) (.seq (.reg [⟨some 37, none, .mv (.t 5)⟩, ⟨some 38, none, .mv (.t 6)⟩, ⟨some 2, none, .mv (.t 37)⟩, ⟨some 3, none, .mv (.t 38)⟩]) .ret))))))
theorem code_spec_FourBoth : HasCode Try.prog fn_spec_FourBoth mc_spec_FourBoth [.t 2, .t 3] 39 := ⟨mixed, Try.f19, _, Try.func19, rfl, by kernel_rfl, by kernel_rfl, rfl, by kernel_rfl⟩

def mc_impl_FourBoth : MC :=
  .seq (.reg [⟨some 1, none, .box (.t 0)⟩, ⟨some 2, none, .mv (.c (.int .i64 0))⟩, ⟨some 3, none, .mv (.c (.int .i64 0))⟩]) (.seq (.seq (.reg [⟨some 4, none, .ld (.t 1) 4 true⟩, ⟨some 5, none, .call fn_impl_Four_valid [.t 4]⟩, ⟨some 6, none, .un .not (.t 5)⟩]) (.cond (.t 6) (.seq (.reg [⟨some 2, none, .mv (.c (.int .i64 (-1)))⟩, ⟨some 3, none, .mv (.c (.int .i64 (-1)))⟩]) .ret) .skip)) (.seq (.reg [⟨some 7, none, .ld (.t 1) 4 true⟩, ⟨some 8, none, .ld (.t 1) 4 true⟩, ⟨some 9, none, .mkb fn_impl_Four_matchedBy (.t 8)⟩, ⟨some 10, none, .call fn_impl_Four_waysAlike [.t 7, .t 9]⟩, ⟨some 11, none, .ext (.t 10) 0⟩, ⟨some 12, none, .ext (.t 10) 1⟩, ⟨some 2, none, .mv (.t 11)⟩, ⟨some 3, none, .mv (.t 12)⟩]) .ret))
theorem code_impl_FourBoth : HasCode Try.prog fn_impl_FourBoth mc_impl_FourBoth [.t 2, .t 3] 13 := ⟨mixed, Try.f20, _, Try.func20, rfl, by kernel_rfl, by kernel_rfl, rfl, by kernel_rfl⟩

def mc_spec_validFour : MC :=
  .seq (.reg [⟨some 1, none, .box (.t 0)⟩, ⟨some 2, none, .mv (.c (.bool false))⟩]) (.seq (.reg [⟨some 3, none, .fa (.t 1) 0⟩, ⟨some 4, none, .ld (.t 3) 1 false⟩, ⟨some 5, none, .call fn_spec_inRange [.t 4, .c (.int .i64 0), .c (.int .i64 8)]⟩, ⟨some 6, none, .mv (.t 5)⟩, ⟨some 7, some (6, true), .fa (.t 1) 1⟩, ⟨some 8, some (6, true), .ld (.t 7) 1 false⟩, ⟨some 9, some (6, true), .call fn_spec_inRange [.t 8, .c (.int .i64 0), .c (.int .i64 8)]⟩, ⟨some 10, none, .pick (.t 6) (.t 9) (.c (.bool false))⟩, ⟨some 11, none, .mv (.t 10)⟩, ⟨some 12, some (11, true), .fa (.t 1) 2⟩, ⟨some 13, some (11, true), .ld (.t 12) 1 false⟩, ⟨some 14, some (11, true), .call fn_spec_inRange [.t 13, .c (.int .i64 0), .c (.int .i64 8)]⟩, ⟨some 15, none, .pick (.t 11) (.t 14) (.c (.bool false))⟩, ⟨some 16, none, .mv (.t 15)⟩, ⟨some 17, some (16, true), .fa (.t 1) 3⟩, ⟨some 18, some (16, true), .ld (.t 17) 1 false⟩, ⟨some 19, some (16, true), .call fn_spec_inRange [.t 18, .c (.int .i64 0), .c (.int .i64 8)]⟩, ⟨some 20, none, .pick (.t 16) (.t 19) (.c (.bool false))⟩, ⟨some 2, none, .mv (.t 20)⟩]) .ret)
theorem code_spec_validFour : HasCode Try.prog fn_spec_validFour mc_spec_validFour [.t 2] 21 := ⟨mixed, Try.f26, _, Try.func26, rfl, by kernel_rfl, by kernel_rfl, rfl, by kernel_rfl⟩

def mc_spec_fourWays : MC :=
  .seq (.reg [⟨some 1, none, .box (.t 0)⟩, ⟨some 2, none, .mv (.c (.int .i64 0))⟩]) (.seq (.drq [⟨some 3, none, .fa (.t 1) 0⟩, ⟨some 4, none, .ld (.t 3) 1 false⟩, ⟨some 5, none, .fa (.t 1) 1⟩, ⟨some 6, none, .ld (.t 5) 1 false⟩, ⟨some 7, none, .bin .add (.t 4) (.t 6)⟩, ⟨some 8, none, .fa (.t 1) 0⟩, ⟨some 9, none, .ld (.t 8) 1 false⟩, ⟨some 10, none, .call fn_spec_choose [.t 7, .t 9]⟩, ⟨some 11, none, .fa (.t 1) 2⟩, ⟨some 12, none, .ld (.t 11) 1 false⟩, ⟨some 13, none, .fa (.t 1) 3⟩, ⟨some 14, none, .ld (.t 13) 1 false⟩, ⟨some 15, none, .bin .add (.t 12) (.t 14)⟩, ⟨some 16, none, .fa (.t 1) 2⟩, ⟨some 17, none, .ld (.t 16) 1 false⟩, ⟨some 18, none, .call fn_spec_choose [.t 15, .t 17]⟩, ⟨some 19, none, .bin .mul (.t 10) (.t 18)⟩, ⟨some 2, none, .mv (.t 19)⟩]) .ret)
theorem code_spec_fourWays : HasCode Try.prog fn_spec_fourWays mc_spec_fourWays [.t 2] 20 := ⟨mixed, Try.f27, _, Try.func27, rfl, by kernel_rfl, by kernel_rfl, rfl, by kernel_rfl⟩

def mc_spec_choose : MC :=
  .seq (.reg [⟨some 4, none, .mv (.c (.int .i64 0))⟩]) (.seq (.seq (.reg [⟨some 7, none, .mv (.t 1)⟩, ⟨some 8, none, .bin .lss (.t 7) (.c (.int .i64 0))⟩, ⟨some 9, none, .mv (.t 8)⟩, ⟨some 10, some (9, false), .mv (.t 1)⟩, ⟨some 11, some (9, false), .mv (.t 0)⟩, ⟨some 12, some (9, false), .bin .gtr (.t 10) (.t 11)⟩, ⟨some 13, none, .pick (.t 9) (.c (.bool true)) (.t 12)⟩]) (.cond (.t 13) (.seq (.reg [⟨some 4, none, .mv (.c (.int .i64 0))⟩]) .ret) .skip)) (.seq (.reg [⟨some 5, none, .mv (.c (.int .i64 1))⟩]) (.seq (.seq (.reg [⟨some 6, none, .mv (.c (.int .i64 0))⟩]) (.block 0 (.loop (.seq (.seq (.reg [⟨some 14, none, .mv (.t 6)⟩, ⟨some 15, none, .mv (.t 1)⟩, ⟨some 16, none, .bin .lss (.t 14) (.t 15)⟩]) (.cond (.t 16) .skip (.exit 0))) (.seq (.block 1 (.reg [⟨some 19, none, .mv (.t 5)⟩, ⟨some 20, none, .mv (.t 0)⟩, ⟨some 21, none, .mv (.t 6)⟩, ⟨some 22, none, .bin .sub (.t 20) (.t 21)⟩, ⟨some 23, none, .bin .mul (.t 19) (.t 22)⟩, ⟨some 24, none, .mv (.t 6)⟩, ⟨some 25, none, .bin .add (.t 24) (.c (.int .i64 1))⟩, ⟨some 26, none, .bin .quo (.t 23) (.t 25)⟩, ⟨some 5, none, .mv (.t 26)⟩])) (.reg [⟨some 17, none, .mv (.t 6)⟩, ⟨some 18, none, .bin .add (.t 17) (.c (.int .i64 1))⟩, ⟨some 6, none, .mv (.t 18)⟩])))))) (.seq (.reg [⟨some 27, none, .mv (.t 5)⟩, ⟨some 4, none, .mv (.t 27)⟩]) .ret))))
theorem code_spec_choose : HasCode Try.prog fn_spec_choose mc_spec_choose [.t 4] 28 := ⟨mixed, Try.f28, _, Try.func28, rfl, by kernel_rfl, by kernel_rfl, rfl, by kernel_rfl⟩

def mc_impl_Four_valid : MC :=
  .seq (.reg [⟨some 1, none, .box (.t 0)⟩, ⟨some 2, none, .mv (.c (.bool false))⟩]) (.seq (.reg [⟨some 3, none, .fa (.t 1) 0⟩, ⟨some 4, none, .ld (.t 3) 1 false⟩, ⟨some 5, none, .fa (.t 1) 1⟩, ⟨some 6, none, .ld (.t 5) 1 false⟩, ⟨some 7, none, .fa (.t 1) 2⟩, ⟨some 8, none, .ld (.t 7) 1 false⟩, ⟨some 9, none, .fa (.t 1) 3⟩, ⟨some 10, none, .ld (.t 9) 1 false⟩, ⟨some 11, none, .mnmx false (.t 4) [.t 6, .t 8, .t 10]⟩, ⟨some 12, none, .bin .geq (.t 11) (.c (.int .i64 0))⟩, ⟨some 13, none, .mv (.t 12)⟩, ⟨some 14, some (13, true), .fa (.t 1) 0⟩, ⟨some 15, some (13, true), .ld (.t 14) 1 false⟩, ⟨some 16, some (13, true), .fa (.t 1) 1⟩, ⟨some 17, some (13, true), .ld (.t 16) 1 false⟩, ⟨some 18, some (13, true), .fa (.t 1) 2⟩, ⟨some 19, some (13, true), .ld (.t 18) 1 false⟩, ⟨some 20, some (13, true), .fa (.t 1) 3⟩, ⟨some 21, some (13, true), .ld (.t 20) 1 false⟩, ⟨some 22, some (13, true), .mnmx true (.t 15) [.t 17, .t 19, .t 21]⟩, ⟨some 23, some (13, true), .bin .leq (.t 22) (.c (.int .i64 8))⟩, ⟨some 24, none, .pick (.t 13) (.t 23) (.c (.bool false))⟩, ⟨some 2, none, .mv (.t 24)⟩]) .ret)
theorem code_impl_Four_valid : HasCode Try.prog fn_impl_Four_valid mc_impl_Four_valid [.t 2] 25 := ⟨mixed, Try.f29, _, Try.func29, rfl, by kernel_rfl, by kernel_rfl, rfl, by kernel_rfl⟩

def mc_impl_Four_ways : MC :=
  .seq (.reg [⟨some 1, none, .box (.t 0)⟩, ⟨some 2, none, .mv (.c (.int .i64 0))⟩]) (.seq (.drq [⟨some 3, none, .fa (.t 1) 0⟩, ⟨some 4, none, .ld (.t 3) 1 false⟩, ⟨some 5, none, .fa (.t 1) 1⟩, ⟨some 6, none, .ld (.t 5) 1 false⟩, ⟨some 7, none, .bin .add (.t 4) (.t 6)⟩, ⟨some 8, none, .fa (.t 1) 0⟩, ⟨some 9, none, .ld (.t 8) 1 false⟩, ⟨some 10, none, .call fn_impl_choose [.t 7, .t 9]⟩, ⟨some 11, none, .fa (.t 1) 2⟩, ⟨some 12, none, .ld (.t 11) 1 false⟩, ⟨some 13, none, .fa (.t 1) 3⟩, ⟨some 14, none, .ld (.t 13) 1 false⟩, ⟨some 15, none, .bin .add (.t 12) (.t 14)⟩, ⟨some 16, none, .fa (.t 1) 2⟩, ⟨some 17, none, .ld (.t 16) 1 false⟩, ⟨some 18, none, .call fn_impl_choose [.t 15, .t 17]⟩, ⟨some 19, none, .bin .mul (.t 10) (.t 18)⟩, ⟨some 2, none, .mv (.t 19)⟩]) .ret)
theorem code_impl_Four_ways : HasCode Try.prog fn_impl_Four_ways mc_impl_Four_ways [.t 2] 20 := ⟨mixed, Try.f30, _, Try.func30, rfl, by kernel_rfl, by kernel_rfl, rfl, by kernel_rfl⟩

def mc_impl_choose : MC :=
  .seq (.reg [⟨some 4, none, .mv (.c (.int .i64 0))⟩]) (.seq (.reg [⟨some 5, none, .mv (.c (.int .i64 1))⟩]) (.seq (.seq (.reg [⟨some 7, none, .mv (.t 1)⟩, ⟨some 8, none, .mv (.c (.int .i64 0))⟩]) (.block 0 (.loop (.seq (.reg [⟨some 9, none, .bin .lss (.t 8) (.t 7)⟩]) (.seq (.cond (.t 9) .skip (.exit 0)) (.seq (.block 1 (.seq (.reg [⟨some 10, none, .mv (.t 8)⟩, ⟨some 6, none, .mv (.t 10)⟩]) (.reg [⟨some 11, none, .mv (.t 5)⟩, ⟨some 12, none, .mv (.t 0)⟩, ⟨some 13, none, .mv (.t 6)⟩, ⟨some 14, none, .bin .sub (.t 12) (.t 13)⟩, ⟨some 15, none, .bin .mul (.t 11) (.t 14)⟩, ⟨some 16, none, .mv (.t 6)⟩, ⟨some 17, none, .bin .add (.t 16) (.c (.int .i64 1))⟩, ⟨some 18, none, .bin .quo (.t 15) (.t 17)⟩, ⟨some 5, none, .mv (.t 18)⟩]))) (.reg [⟨some 19, none, .bin .add (.t 8) (.c (.int .i64 1))⟩, ⟨some 8, none, .mv (.t 19)⟩]))))))) (.seq (.reg [⟨some 20, none, .mv (.t 5)⟩, ⟨some 4, none, .mv (.t 20)⟩]) .ret)))
theorem code_impl_choose : HasCode Try.prog fn_impl_choose mc_impl_choose [.t 4] 21 := ⟨mixed, Try.f31, _, Try.func31, rfl, by kernel_rfl, by kernel_rfl, rfl, by kernel_rfl⟩

def mc_spec_whole : MC :=
  .seq (.reg [⟨some 1, none, .box (.t 0)⟩, ⟨some 2, none, .mv (.c (.bool false))⟩]) (.seq (.reg [⟨some 3, none, .fa (.t 1) 0⟩, ⟨some 4, none, .ld (.t 3) 1 false⟩, ⟨some 5, none, .bin .geq (.t 4) (.c (.int .i64 0))⟩, ⟨some 6, none, .mv (.t 5)⟩, ⟨some 7, some (6, true), .fa (.t 1) 1⟩, ⟨some 8, some (6, true), .ld (.t 7) 1 false⟩, ⟨some 9, some (6, true), .bin .geq (.t 8) (.c (.int .i64 0))⟩, ⟨some 10, none, .pick (.t 6) (.t 9) (.c (.bool false))⟩, ⟨some 11, none, .mv (.t 10)⟩, ⟨some 12, some (11, true), .fa (.t 1) 2⟩, ⟨some 13, some (11, true), .ld (.t 12) 1 false⟩, ⟨some 14, some (11, true), .bin .geq (.t 13) (.c (.int .i64 0))⟩, ⟨some 15, none, .pick (.t 11) (.t 14) (.c (.bool false))⟩, ⟨some 16, none, .mv (.t 15)⟩, ⟨some 17, some (16, true), .fa (.t 1) 3⟩, ⟨some 18, some (16, true), .ld (.t 17) 1 false⟩, ⟨some 19, some (16, true), .bin .geq (.t 18) (.c (.int .i64 0))⟩, ⟨some 20, none, .pick (.t 16) (.t 19) (.c (.bool false))⟩, ⟨some 2, none, .mv (.t 20)⟩]) .ret)
theorem code_spec_whole : HasCode Try.prog fn_spec_whole mc_spec_whole [.t 2] 21 := ⟨mixed, Try.f32, _, Try.func32, rfl, by kernel_rfl, by kernel_rfl, rfl, by kernel_rfl⟩

def mc_spec_shifted : MC :=
  .seq (.reg [⟨some 2, none, .box (.t 0)⟩, ⟨some 4, none, .new [.int .i64 0, .int .i64 0, .int .i64 0, .int .i64 0]⟩]) (.seq (.reg [⟨some 5, none, .mv (.t 1)⟩, ⟨some 6, none, .fa (.t 2) 1⟩, ⟨some 7, none, .ld (.t 6) 1 false⟩, ⟨some 8, none, .fa (.t 2) 0⟩, ⟨some 9, none, .ld (.t 8) 1 false⟩, ⟨some 10, none, .bin .add (.t 7) (.t 9)⟩, ⟨some 11, none, .mv (.t 1)⟩, ⟨some 12, none, .bin .sub (.t 10) (.t 11)⟩, ⟨some 13, none, .fa (.t 2) 2⟩, ⟨some 14, none, .ld (.t 13) 1 false⟩, ⟨some 15, none, .fa (.t 2) 0⟩, ⟨some 16, none, .ld (.t 15) 1 false⟩, ⟨some 17, none, .bin .add (.t 14) (.t 16)⟩, ⟨some 18, none, .mv (.t 1)⟩, ⟨some 19, none, .bin .sub (.t 17) (.t 18)⟩, ⟨some 20, none, .fa (.t 2) 3⟩, ⟨some 21, none, .ld (.t 20) 1 false⟩, ⟨some 22, none, .fa (.t 2) 0⟩, ⟨some 23, none, .ld (.t 22) 1 false⟩, ⟨some 24, none, .bin .sub (.t 21) (.t 23)⟩, ⟨some 25, none, .mv (.t 1)⟩, ⟨some 26, none, .bin .add (.t 24) (.t 25)⟩, ⟨some 27, none, .bld [.int .i64 0, .int .i64 0, .int .i64 0, .int .i64 0] [(0, 1, .t 5), (1, 1, .t 12), (2, 1, .t 19), (3, 1, .t 26)]⟩, ⟨none, none, .st (.t 4) (.t 27) 4⟩]) .ret)
theorem code_spec_shifted : HasCode Try.prog fn_spec_shifted mc_spec_shifted [.c 4 4 true] 28 := ⟨mixed, Try.f33, _, Try.func33, rfl, by kernel_rfl, by kernel_rfl, rfl, by kernel_rfl⟩

def mc_impl_Four_alike : MC :=
  .seq (.reg [⟨some 1, none, .box (.t 0)⟩, ⟨some 2, none, .mv (.c .nilSlice)⟩]) (.seq (.reg [⟨some 3, none, .mv (.c .nilSlice)⟩]) (.seq (.reg [⟨some 6, none, .ld (.t 1) 4 true⟩, ⟨some 7, none, .fa (.t 1) 1⟩, ⟨some 8, none, .ld (.t 7) 1 false⟩, ⟨some 9, none, .fa (.t 1) 2⟩, ⟨some 10, none, .ld (.t 9) 1 false⟩, ⟨some 11, none, .mnmx false (.t 8) [.t 10]⟩, ⟨some 12, none, .bin .add (.t 11) (.c (.int .i64 1))⟩, ⟨some 13, none, .call fn_impl_Four_moved [.t 6, .t 12]⟩, ⟨some 4, none, .new [.int .i64 0, .int .i64 0, .int .i64 0, .int .i64 0]⟩, ⟨none, none, .st (.t 4) (.t 13) 4⟩]) (.seq (.seq (.reg [⟨some 14, none, .ld (.t 1) 4 true⟩, ⟨some 15, none, .fa (.t 1) 0⟩, ⟨some 16, none, .ld (.t 15) 1 false⟩, ⟨some 17, none, .fa (.t 1) 3⟩, ⟨some 18, none, .ld (.t 17) 1 false⟩, ⟨some 19, none, .mnmx false (.t 16) [.t 18]⟩, ⟨some 20, none, .un .neg (.t 19)⟩, ⟨some 21, none, .call fn_impl_Four_moved [.t 14, .t 20]⟩, ⟨some 5, none, .new [.int .i64 0, .int .i64 0, .int .i64 0, .int .i64 0]⟩, ⟨none, none, .st (.t 5) (.t 21) 4⟩]) (.block 0 (.loop (.seq (.seq (.reg [⟨some 22, none, .ld (.t 5) 4 true⟩, ⟨some 23, none, .ld (.t 4) 4 true⟩, ⟨some 24, none, .ageq true 4 (.t 22) (.t 23)⟩]) (.cond (.t 24) .skip (.exit 0))) (.seq (.block 1 (.reg [⟨some 27, none, .mv (.t 3)⟩, ⟨some 28, none, .ld (.t 5) 4 true⟩, ⟨some 29, none, .bsl 1 4 [.int .i64 0, .int .i64 0, .int .i64 0, .int .i64 0] [(0, .t 28)]⟩, ⟨some 30, none, .app (.t 27) (.t 29) 4 32⟩, ⟨some 3, none, .mv (.t 30)⟩])) (.seq (.seq (.reg [⟨some 31, none, .ld (.t 5) 4 true⟩]) (.reg [⟨some 5, none, .new [.int .i64 0, .int .i64 0, .int .i64 0, .int .i64 0]⟩, ⟨none, none, .st (.t 5) (.t 31) 4⟩])) (.reg [⟨some 25, none, .ld (.t 5) 4 true⟩, ⟨some 26, none, .call fn_impl_Four_moved [.t 25, .c (.int .i64 1)]⟩, ⟨none, none, .st (.t 5) (.t 26) 4⟩]))))))) (.seq (.reg [⟨some 32, none, .mv (.t 3)⟩, ⟨some 2, none, .mv (.t 32)⟩]) .ret))))
theorem code_impl_Four_alike : HasCode Try.prog fn_impl_Four_alike mc_impl_Four_alike [.t 2] 33 := ⟨mixed, Try.f34, _, Try.func34, rfl, by kernel_rfl, by kernel_rfl, rfl, by kernel_rfl⟩

def mc_impl_Four_waysAlike : MC :=
  .seq (.reg [⟨some 2, none, .box (.t 0)⟩, ⟨some 4, none, .mv (.c (.int .i64 0))⟩, ⟨some 5, none, .mv (.c (.int .i64 0))⟩]) (.seq (.reg [⟨some 6, none, .mv (.c (.int .i64 0))⟩, ⟨some 7, none, .mv (.c (.int .i64 0))⟩]) (.seq (.seq (.reg [⟨some 11, none, .ld (.t 2) 4 true⟩, ⟨some 12, none, .call fn_impl_Four_alike [.t 11]⟩, ⟨some 13, none, .len (.t 12)⟩, ⟨some 14, none, .mv (.c (.int .i64 0))⟩]) (.block 0 (.loop (.seq (.reg [⟨some 15, none, .bin .lss (.t 14) (.t 13)⟩]) (.seq (.cond (.t 15) .skip (.exit 0)) (.seq (.block 1 (.seq (.reg [⟨some 16, none, .ixa (.t 12) (.t 14) 4⟩, ⟨some 17, none, .ld (.t 16) 4 true⟩, ⟨some 9, none, .new [.int .i64 0, .int .i64 0, .int .i64 0, .int .i64 0]⟩, ⟨none, none, .st (.t 9) (.t 17) 4⟩]) (.seq (.reg [⟨some 18, none, .ld (.t 9) 4 true⟩, ⟨some 19, none, .call fn_impl_Four_ways [.t 18]⟩, ⟨some 10, none, .mv (.t 19)⟩]) (.seq (.seq (.reg [⟨some 20, none, .mv (.t 1)⟩, ⟨some 21, none, .ld (.t 9) 4 true⟩, ⟨some 22, none, .callv (.t 20) [.t 21]⟩]) (.cond (.t 22) (.reg [⟨some 23, none, .mv (.t 6)⟩, ⟨some 24, none, .mv (.t 10)⟩, ⟨some 25, none, .bin .add (.t 23) (.t 24)⟩, ⟨some 6, none, .mv (.t 25)⟩]) .skip)) (.reg [⟨some 26, none, .mv (.t 7)⟩, ⟨some 27, none, .mv (.t 10)⟩, ⟨some 28, none, .bin .add (.t 26) (.t 27)⟩, ⟨some 7, none, .mv (.t 28)⟩]))))) (.reg [⟨some 29, none, .bin .add (.t 14) (.c (.int .i64 1))⟩, ⟨some 14, none, .mv (.t 29)⟩]))))))) (.seq (.reg [⟨some 30, none, .mv (.t 6)⟩, ⟨some 31, none, .mv (.t 7)⟩, ⟨some 4, none, .mv (.t 30)⟩, ⟨some 5, none, .mv (.t 31)⟩]) .ret)))
theorem code_impl_Four_waysAlike : HasCode Try.prog fn_impl_Four_waysAlike mc_impl_Four_waysAlike [.t 4, .t 5] 32 := ⟨mixed, Try.f35, _, Try.func35, rfl, by kernel_rfl, by kernel_rfl, rfl, by kernel_rfl⟩

def mc_impl_Four_matchedBy : MC :=
  .seq (.reg [⟨some 2, none, .box (.t 0)⟩, ⟨some 3, none, .box (.t 1)⟩, ⟨some 4, none, .mv (.c (.bool false))⟩]) (.seq (.drq [⟨some 5, none, .ld (.t 3) 4 true⟩, ⟨some 6, none, .call fn_impl_Four_ways [.t 5]⟩, ⟨some 7, none, .ld (.t 2) 4 true⟩, ⟨some 8, none, .call fn_impl_Four_ways [.t 7]⟩, ⟨some 9, none, .bin .leq (.t 6) (.t 8)⟩, ⟨some 4, none, .mv (.t 9)⟩]) .ret)
theorem code_impl_Four_matchedBy : HasCode Try.prog fn_impl_Four_matchedBy mc_impl_Four_matchedBy [.t 4] 10 := ⟨mixed, Try.f37, _, Try.func37, rfl, by kernel_rfl, by kernel_rfl, rfl, by kernel_rfl⟩

def mc_spec_inRange : MC :=
  .seq (.reg [⟨some 6, none, .mv (.c (.bool false))⟩]) (.seq (.reg [⟨some 7, none, .mv (.t 1)⟩, ⟨some 8, none, .mv (.t 0)⟩, ⟨some 9, none, .bin .leq (.t 7) (.t 8)⟩, ⟨some 10, none, .mv (.t 9)⟩, ⟨some 11, some (10, true), .mv (.t 0)⟩, ⟨some 12, some (10, true), .mv (.t 2)⟩, ⟨some 13, some (10, true), .bin .leq (.t 11) (.t 12)⟩, ⟨some 14, none, .pick (.t 10) (.t 13) (.c (.bool false))⟩, ⟨some 6, none, .mv (.t 14)⟩]) .ret)
theorem code_spec_inRange : HasCode Try.prog fn_spec_inRange mc_spec_inRange [.t 6] 15 := ⟨mixed, Try.f43, _, Try.func43, rfl, by kernel_rfl, by kernel_rfl, rfl, by kernel_rfl⟩

def mc_impl_Four_moved : MC :=
  .seq (.reg [⟨some 2, none, .box (.t 0)⟩, ⟨some 4, none, .new [.int .i64 0, .int .i64 0, .int .i64 0, .int .i64 0]⟩]) (.seq (.reg [⟨some 5, none, .fa (.t 2) 0⟩, ⟨some 6, none, .ld (.t 5) 1 false⟩, ⟨some 7, none, .mv (.t 1)⟩, ⟨some 8, none, .bin .add (.t 6) (.t 7)⟩, ⟨some 9, none, .fa (.t 2) 1⟩, ⟨some 10, none, .ld (.t 9) 1 false⟩, ⟨some 11, none, .mv (.t 1)⟩, ⟨some 12, none, .bin .sub (.t 10) (.t 11)⟩, ⟨some 13, none, .fa (.t 2) 2⟩, ⟨some 14, none, .ld (.t 13) 1 false⟩, ⟨some 15, none, .mv (.t 1)⟩, ⟨some 16, none, .bin .sub (.t 14) (.t 15)⟩, ⟨some 17, none, .fa (.t 2) 3⟩, ⟨some 18, none, .ld (.t 17) 1 false⟩, ⟨some 19, none, .mv (.t 1)⟩, ⟨some 20, none, .bin .add (.t 18) (.t 19)⟩, ⟨some 21, none, .bld [.int .i64 0, .int .i64 0, .int .i64 0, .int .i64 0] [(0, 1, .t 8), (1, 1, .t 12), (2, 1, .t 16), (3, 1, .t 20)]⟩, ⟨none, none, .st (.t 4) (.t 21) 4⟩]) .ret)
theorem code_impl_Four_moved : HasCode Try.prog fn_impl_Four_moved mc_impl_Four_moved [.c 4 4 true] 22 := ⟨mixed, Try.f45, _, Try.func45, rfl, by kernel_rfl, by kernel_rfl, rfl, by kernel_rfl⟩

end Go.Rx.Try
