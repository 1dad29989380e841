/-
  The code of each function of the program, taken up. Made by a program.
-/
import Derived.Test.YtophpmdlgphihaiProg
import Derived.Test.YtophpmdlgphihaiRxI
import Derived.KernelRfl
namespace Go.Rx.Try
open Go.Proofs
set_option maxRecDepth 100000

abbrev fn_laws_FnExactMeanOf : FuncId := 3
abbrev fn_laws_FnMeanOf : FuncId := 4
abbrev fn_spec_MeanOf : FuncId := 5
abbrev fn_laws_toIntS : FuncId := 6
abbrev fn_impl_MeanOf : FuncId := 7
abbrev fn_laws_eqFrac : FuncId := 8
abbrev fn_laws_eqIntS : FuncId := 9
abbrev fn_spec_DrawMeanOf : FuncId := 10
abbrev fn_laws_lessOf : FuncId := 11
abbrev fn_laws_fracOf : FuncId := 12
abbrev fn_laws_greatest : FuncId := 13
abbrev fn_laws_negated : FuncId := 14
abbrev fn_spec_validLoads : FuncId := 15
abbrev fn_spec_inRange : FuncId := 16
abbrev fn_spec_mean : FuncId := 17
abbrev fn_impl_ValidLoads : FuncId := 18
abbrev fn_impl_meanOf : FuncId := 19
abbrev fn_impl_cut : FuncId := 20
abbrev fn_impl_loadsOf : FuncId := 21
abbrev fn_spec_newReader : FuncId := 22
abbrev fn_spec_someLoads : FuncId := 23
abbrev fn_spec_reader_pick : FuncId := 24
abbrev fn_spec_reader_one : FuncId := 25
abbrev fn_laws_divisor : FuncId := 26
abbrev fn_spec_frac : FuncId := 27
abbrev fn_impl_validHeights : FuncId := 28
abbrev fn_impl_totalOf : FuncId := 29
abbrev fn_impl_lowest : FuncId := 30
abbrev fn_spec_gcd : FuncId := 31
abbrev fn_impl_commonFactor : FuncId := 32
abbrev fn_impl_apart : FuncId := 33
abbrev fn_runtime_boundsError_Error : FuncId := 34
abbrev fn_runtime_boundsError_RuntimeError : FuncId := 35
abbrev fn_runtime_errorString_Error : FuncId := 36
abbrev fn_runtime_errorString_RuntimeError : FuncId := 37
abbrev fn_runtime_plainError_Error : FuncId := 38
abbrev fn_runtime_plainError_RuntimeError : FuncId := 39
abbrev fn_runtime_errorAddressString_Error : FuncId := 40
abbrev fn_runtime_errorAddressString_RuntimeError : FuncId := 41
abbrev fn_runtime_TypeAssertionError_Error : FuncId := 42
abbrev fn_runtime_TypeAssertionError_RuntimeError : FuncId := 43
abbrev fn_runtime_PanicNilError_Error : FuncId := 44
abbrev fn_runtime_PanicNilError_RuntimeError : FuncId := 45
abbrev fn_internal_abi_Type_Align : FuncId := 46
abbrev fn_internal_runtime_maps_unhashableTypeError_Error : FuncId := 47
abbrev fn_internal_runtime_maps_unhashableTypeError_RuntimeError : FuncId := 48
abbrev fn_impl_Frac_size : FuncId := 49
abbrev fn_internal_abi_Kind_String : FuncId := 50
abbrev ty_abi_BoundsErrorCode : TypeId := 6
abbrev ty_maps_unhashableTypeError : TypeId := 19
abbrev ty_impl_Frac : TypeId := 24
abbrev ty_impl_point : TypeId := 51
abbrev ty_impl_load : TypeId := 54
abbrev ty_spec_reader : TypeId := 56
abbrev ty_abi_TFlag : TypeId := 65
abbrev ty_abi_Kind : TypeId := 66
abbrev ty_abi_NameOff : TypeId := 69
abbrev ty_abi_TypeOff : TypeId := 70
abbrev ty_abi_Type : TypeId := 72
theorem mixed : Try.prog.follows .mixedOrders = true := by kernel_rfl

def mc_laws_FnExactMeanOf : MC :=
  .seq (.reg [⟨some 8, none, .mv (.c (.bool false))⟩]) (.seq (.seq (.reg [⟨some 15, none, .mv (.t 0)⟩, ⟨some 16, none, .len (.t 15)⟩, ⟨some 17, none, .bin .gtr (.t 16) (.c (.int .i64 1048576))⟩]) (.cond (.t 17) (.seq (.reg [⟨some 8, none, .mv (.c (.bool true))⟩]) .ret) .skip)) (.seq (.seq (.reg [⟨some 18, none, .mv (.t 1)⟩, ⟨some 19, none, .len (.t 18)⟩, ⟨some 20, none, .bin .gtr (.t 19) (.c (.int .i64 1048576))⟩]) (.cond (.t 20) (.seq (.reg [⟨some 8, none, .mv (.c (.bool true))⟩]) .ret) .skip)) (.seq (.reg [⟨some 22, none, .mv (.t 0)⟩, ⟨some 23, none, .call fn_laws_toIntS [.t 22]⟩, ⟨some 24, none, .mv (.t 1)⟩, ⟨some 25, none, .call fn_laws_toIntS [.t 24]⟩, ⟨some 26, none, .mv (.t 2)⟩, ⟨some 27, none, .mv (.t 3)⟩, ⟨some 28, none, .call fn_spec_MeanOf [.t 23, .t 25, .t 26, .t 27]⟩, ⟨some 21, none, .mv (.t 28)⟩, ⟨some 29, none, .ext (.t 21) 0⟩, ⟨some 30, none, .ext (.t 21) 1⟩, ⟨some 9, none, .new [.int .i64 0, .int .i64 0]⟩, ⟨none, none, .st (.t 9) (.t 29) 2⟩, ⟨some 10, none, .mv (.t 30)⟩]) (.seq (.reg [⟨some 31, none, .mv (.t 0)⟩, ⟨some 32, none, .call fn_laws_toIntS [.t 31]⟩, ⟨some 11, none, .mv (.t 32)⟩]) (.seq (.reg [⟨some 33, none, .mv (.t 1)⟩, ⟨some 34, none, .call fn_laws_toIntS [.t 33]⟩, ⟨some 12, none, .mv (.t 34)⟩]) (.seq (.reg [⟨some 36, none, .mv (.t 11)⟩, ⟨some 37, none, .mv (.t 12)⟩, ⟨some 38, none, .mv (.t 2)⟩, ⟨some 39, none, .mv (.t 3)⟩, ⟨some 40, none, .call fn_impl_MeanOf [.t 36, .t 37, .t 38, .t 39]⟩, ⟨some 35, none, .mv (.t 40)⟩, ⟨some 41, none, .ext (.t 35) 0⟩, ⟨some 42, none, .ext (.t 35) 1⟩, ⟨some 13, none, .new [.int .i64 0, .int .i64 0]⟩, ⟨none, none, .st (.t 13) (.t 41) 2⟩, ⟨some 14, none, .mv (.t 42)⟩]) (.seq (.seq (.reg [⟨some 43, none, .ld (.t 13) 2 true⟩, ⟨some 44, none, .ld (.t 9) 2 true⟩, ⟨some 45, none, .call fn_laws_eqFrac [.t 43, .t 44]⟩, ⟨some 46, none, .un .not (.t 45)⟩, ⟨some 47, none, .mv (.t 46)⟩, ⟨some 48, some (47, false), .mv (.t 14)⟩, ⟨some 49, some (47, false), .mv (.t 10)⟩, ⟨some 50, some (47, false), .beq true (.t 48) (.t 49)⟩, ⟨some 51, none, .pick (.t 47) (.c (.bool true)) (.t 50)⟩]) (.cond (.t 51) (.seq (.reg [⟨some 8, none, .mv (.c (.bool false))⟩]) .ret) .skip)) (.seq (.seq (.reg [⟨some 52, none, .mv (.t 11)⟩, ⟨some 53, none, .mv (.t 0)⟩, ⟨some 54, none, .call fn_laws_toIntS [.t 53]⟩, ⟨some 55, none, .call fn_laws_eqIntS [.t 52, .t 54]⟩, ⟨some 56, none, .un .not (.t 55)⟩]) (.cond (.t 56) (.seq (.reg [⟨some 8, none, .mv (.c (.bool false))⟩]) .ret) .skip)) (.seq (.seq (.reg [⟨some 57, none, .mv (.t 12)⟩, ⟨some 58, none, .mv (.t 1)⟩, ⟨some 59, none, .call fn_laws_toIntS [.t 58]⟩, ⟨some 60, none, .call fn_laws_eqIntS [.t 57, .t 59]⟩, ⟨some 61, none, .un .not (.t 60)⟩]) (.cond (.t 61) (.seq (.reg [⟨some 8, none, .mv (.c (.bool false))⟩]) .ret) .skip)) (.seq (.reg [⟨some 8, none, .mv (.c (.bool true))⟩]) .ret))))))))))
theorem code_laws_FnExactMeanOf : HasCode Try.prog fn_laws_FnExactMeanOf mc_laws_FnExactMeanOf [.t 8] 62 := ⟨mixed, Try.f3, _, Try.func3, rfl, by kernel_rfl, by kernel_rfl, rfl, by kernel_rfl, rfl⟩

def mc_spec_MeanOf : MC :=
  .seq (.reg [⟨some 8, none, .new [.int .i64 0, .int .i64 0]⟩, ⟨some 9, none, .mv (.c (.bool false))⟩]) (.seq (.seq (.reg [⟨some 10, none, .mv (.t 0)⟩, ⟨some 11, none, .mv (.t 1)⟩, ⟨some 12, none, .call fn_spec_validLoads [.t 10, .t 11]⟩, ⟨some 13, none, .un .not (.t 12)⟩, ⟨some 14, none, .mv (.t 13)⟩, ⟨some 15, some (14, false), .mv (.t 2)⟩, ⟨some 16, some (14, false), .mv (.t 0)⟩, ⟨some 17, some (14, false), .len (.t 16)⟩, ⟨some 18, some (14, false), .bin .sub (.t 17) (.c (.int .i64 1))⟩, ⟨some 19, some (14, false), .call fn_spec_inRange [.t 15, .c (.int .i64 0), .t 18]⟩, ⟨some 20, some (14, false), .un .not (.t 19)⟩, ⟨some 21, none, .pick (.t 14) (.c (.bool true)) (.t 20)⟩, ⟨some 22, none, .mv (.t 21)⟩, ⟨some 23, some (22, false), .mv (.t 3)⟩, ⟨some 24, some (22, false), .mv (.t 2)⟩, ⟨some 25, some (22, false), .mv (.t 0)⟩, ⟨some 26, some (22, false), .len (.t 25)⟩, ⟨some 27, some (22, false), .bin .sub (.t 26) (.c (.int .i64 1))⟩, ⟨some 28, some (22, false), .call fn_spec_inRange [.t 23, .t 24, .t 27]⟩, ⟨some 29, some (22, false), .un .not (.t 28)⟩, ⟨some 30, none, .pick (.t 22) (.c (.bool true)) (.t 29)⟩]) (.cond (.t 30) (.seq (.reg [⟨some 31, none, .bld [.int .i64 0, .int .i64 0] []⟩, ⟨none, none, .st (.t 8) (.t 31) 2⟩, ⟨some 9, none, .mv (.c (.bool false))⟩]) .ret) .skip)) (.seq (.reg [⟨some 32, none, .mv (.t 0)⟩, ⟨some 33, none, .mv (.t 1)⟩, ⟨some 34, none, .mv (.t 2)⟩, ⟨some 35, none, .mv (.t 3)⟩, ⟨some 36, none, .call fn_spec_mean [.t 32, .t 33, .t 34, .t 35]⟩, ⟨none, none, .st (.t 8) (.t 36) 2⟩, ⟨some 9, none, .mv (.c (.bool true))⟩]) .ret))
theorem code_spec_MeanOf : HasCode Try.prog fn_spec_MeanOf mc_spec_MeanOf [.c 8 2 true, .t 9] 37 := ⟨mixed, Try.f5, _, Try.func5, rfl, by kernel_rfl, by kernel_rfl, rfl, by kernel_rfl, rfl⟩

def mc_laws_toIntS : MC :=
  .seq (.reg [⟨some 2, none, .mv (.c .nilSlice)⟩]) (.seq (.reg [⟨some 5, none, .mv (.t 0)⟩, ⟨some 6, none, .len (.t 5)⟩, ⟨some 7, none, .mks (.t 6) (.t 6) [.int .i64 0] 1 8⟩, ⟨some 3, none, .mv (.t 7)⟩]) (.seq (.seq (.reg [⟨some 4, none, .mv (.c (.int .i64 0))⟩]) (.block 0 (.loop (.seq (.seq (.reg [⟨some 8, none, .mv (.t 4)⟩, ⟨some 9, none, .mv (.t 0)⟩, ⟨some 10, none, .len (.t 9)⟩, ⟨some 11, none, .bin .lss (.t 8) (.t 10)⟩]) (.cond (.t 11) .skip (.exit 0))) (.seq (.block 1 (.reg [⟨some 14, none, .mv (.t 3)⟩, ⟨some 15, none, .mv (.t 4)⟩, ⟨some 16, none, .mv (.t 0)⟩, ⟨some 17, none, .mv (.t 4)⟩, ⟨some 18, none, .ixa (.t 16) (.t 17) 1⟩, ⟨some 19, none, .ld (.t 18) 1 false⟩, ⟨some 20, none, .ixa (.t 14) (.t 15) 1⟩, ⟨none, none, .st (.t 20) (.t 19) 1⟩])) (.reg [⟨some 12, none, .mv (.t 4)⟩, ⟨some 13, none, .bin .add (.t 12) (.c (.int .i64 1))⟩, ⟨some 4, none, .mv (.t 13)⟩])))))) (.seq (.reg [⟨some 21, none, .mv (.t 3)⟩, ⟨some 2, none, .mv (.t 21)⟩]) .ret)))
theorem code_laws_toIntS : HasCode Try.prog fn_laws_toIntS mc_laws_toIntS [.t 2] 22 := ⟨mixed, Try.f6, _, Try.func6, rfl, by kernel_rfl, by kernel_rfl, rfl, by kernel_rfl, rfl⟩

def mc_impl_MeanOf : MC :=
  .seq (.reg [⟨some 8, none, .new [.int .i64 0, .int .i64 0]⟩, ⟨some 9, none, .mv (.c (.bool false))⟩]) (.seq (.seq (.reg [⟨some 10, none, .mv (.t 0)⟩, ⟨some 11, none, .mv (.t 1)⟩, ⟨some 12, none, .call fn_impl_ValidLoads [.t 10, .t 11]⟩, ⟨some 13, none, .un .not (.t 12)⟩, ⟨some 14, none, .mv (.t 13)⟩, ⟨some 15, some (14, false), .mv (.t 2)⟩, ⟨some 16, some (14, false), .bin .lss (.t 15) (.c (.int .i64 0))⟩, ⟨some 17, none, .pick (.t 14) (.c (.bool true)) (.t 16)⟩, ⟨some 18, none, .mv (.t 17)⟩, ⟨some 19, some (18, false), .mv (.t 3)⟩, ⟨some 20, some (18, false), .mv (.t 2)⟩, ⟨some 21, some (18, false), .bin .lss (.t 19) (.t 20)⟩, ⟨some 22, none, .pick (.t 18) (.c (.bool true)) (.t 21)⟩, ⟨some 23, none, .mv (.t 22)⟩, ⟨some 24, some (23, false), .mv (.t 3)⟩, ⟨some 25, some (23, false), .mv (.t 0)⟩, ⟨some 26, some (23, false), .len (.t 25)⟩, ⟨some 27, some (23, false), .bin .geq (.t 24) (.t 26)⟩, ⟨some 28, none, .pick (.t 23) (.c (.bool true)) (.t 27)⟩]) (.cond (.t 28) (.seq (.reg [⟨some 29, none, .bld [.int .i64 0, .int .i64 0] []⟩, ⟨none, none, .st (.t 8) (.t 29) 2⟩, ⟨some 9, none, .mv (.c (.bool false))⟩]) .ret) .skip)) (.seq (.reg [⟨some 30, none, .mv (.t 0)⟩, ⟨some 31, none, .mv (.t 1)⟩, ⟨some 32, none, .call fn_impl_loadsOf [.t 30, .t 31]⟩, ⟨some 33, none, .mv (.t 2)⟩, ⟨some 34, none, .mv (.t 3)⟩, ⟨some 35, none, .call fn_impl_cut [.t 32, .t 33, .t 34]⟩, ⟨some 36, none, .call fn_impl_meanOf [.t 35]⟩, ⟨none, none, .st (.t 8) (.t 36) 2⟩, ⟨some 9, none, .mv (.c (.bool true))⟩]) .ret))
theorem code_impl_MeanOf : HasCode Try.prog fn_impl_MeanOf mc_impl_MeanOf [.c 8 2 true, .t 9] 37 := ⟨mixed, Try.f7, _, Try.func7, rfl, by kernel_rfl, by kernel_rfl, rfl, by kernel_rfl, rfl⟩

def mc_laws_eqFrac : MC :=
  .seq (.reg [⟨some 2, none, .box (.t 0)⟩, ⟨some 3, none, .box (.t 1)⟩, ⟨some 4, none, .mv (.c (.bool false))⟩]) (.seq (.seq (.reg [⟨some 5, none, .fa (.t 2) 0⟩, ⟨some 6, none, .ld (.t 5) 1 false⟩, ⟨some 7, none, .fa (.t 3) 0⟩, ⟨some 8, none, .ld (.t 7) 1 false⟩, ⟨some 9, none, .bin .neq (.t 6) (.t 8)⟩]) (.cond (.t 9) (.seq (.reg [⟨some 4, none, .mv (.c (.bool false))⟩]) .ret) .skip)) (.seq (.seq (.reg [⟨some 10, none, .fa (.t 2) 1⟩, ⟨some 11, none, .ld (.t 10) 1 false⟩, ⟨some 12, none, .fa (.t 3) 1⟩, ⟨some 13, none, .ld (.t 12) 1 false⟩, ⟨some 14, none, .bin .neq (.t 11) (.t 13)⟩]) (.cond (.t 14) (.seq (.reg [⟨some 4, none, .mv (.c (.bool false))⟩]) .ret) .skip)) (.seq (.reg [⟨some 4, none, .mv (.c (.bool true))⟩]) .ret)))
theorem code_laws_eqFrac : HasCode Try.prog fn_laws_eqFrac mc_laws_eqFrac [.t 4] 15 := ⟨mixed, Try.f8, _, Try.func8, rfl, by kernel_rfl, by kernel_rfl, rfl, by kernel_rfl, rfl⟩

def mc_laws_eqIntS : MC :=
  .seq (.reg [⟨some 4, none, .mv (.c (.bool false))⟩]) (.seq (.seq (.reg [⟨some 6, none, .mv (.t 0)⟩, ⟨some 7, none, .len (.t 6)⟩, ⟨some 8, none, .mv (.t 1)⟩, ⟨some 9, none, .len (.t 8)⟩, ⟨some 10, none, .bin .neq (.t 7) (.t 9)⟩]) (.cond (.t 10) (.seq (.reg [⟨some 4, none, .mv (.c (.bool false))⟩]) .ret) .skip)) (.seq (.seq (.reg [⟨some 5, none, .mv (.c (.int .i64 0))⟩]) (.block 0 (.loop (.seq (.seq (.reg [⟨some 11, none, .mv (.t 5)⟩, ⟨some 12, none, .mv (.t 0)⟩, ⟨some 13, none, .len (.t 12)⟩, ⟨some 14, none, .bin .lss (.t 11) (.t 13)⟩]) (.cond (.t 14) .skip (.exit 0))) (.seq (.block 1 (.seq (.drq [⟨some 17, none, .mv (.t 0)⟩, ⟨some 18, none, .mv (.t 5)⟩, ⟨some 19, none, .ixa (.t 17) (.t 18) 1⟩, ⟨some 20, none, .ld (.t 19) 1 false⟩, ⟨some 21, none, .mv (.t 1)⟩, ⟨some 22, none, .mv (.t 5)⟩, ⟨some 23, none, .ixa (.t 21) (.t 22) 1⟩, ⟨some 24, none, .ld (.t 23) 1 false⟩, ⟨some 25, none, .bin .neq (.t 20) (.t 24)⟩]) (.cond (.t 25) (.seq (.reg [⟨some 4, none, .mv (.c (.bool false))⟩]) .ret) .skip))) (.reg [⟨some 15, none, .mv (.t 5)⟩, ⟨some 16, none, .bin .add (.t 15) (.c (.int .i64 1))⟩, ⟨some 5, none, .mv (.t 16)⟩])))))) (.seq (.reg [⟨some 4, none, .mv (.c (.bool true))⟩]) .ret)))
theorem code_laws_eqIntS : HasCode Try.prog fn_laws_eqIntS mc_laws_eqIntS [.t 4] 26 := ⟨mixed, Try.f9, _, Try.func9, rfl, by kernel_rfl, by kernel_rfl, rfl, by kernel_rfl, rfl⟩

def mc_spec_validLoads : MC :=
  .seq (.reg [⟨some 4, none, .mv (.c (.bool false))⟩]) (.seq (.seq (.reg [⟨some 5, none, .mv (.c (.int .i64 0))⟩]) (.block 0 (.loop (.seq (.seq (.reg [⟨some 7, none, .mv (.t 5)⟩, ⟨some 8, none, .mv (.t 1)⟩, ⟨some 9, none, .len (.t 8)⟩, ⟨some 10, none, .bin .lss (.t 7) (.t 9)⟩]) (.cond (.t 10) .skip (.exit 0))) (.seq (.block 1 (.seq (.reg [⟨some 13, none, .mv (.t 1)⟩, ⟨some 14, none, .mv (.t 5)⟩, ⟨some 15, none, .ixa (.t 13) (.t 14) 1⟩, ⟨some 16, none, .ld (.t 15) 1 false⟩, ⟨some 17, none, .call fn_spec_inRange [.t 16, .c (.int .i64 1), .c (.int .i64 5)]⟩, ⟨some 18, none, .un .not (.t 17)⟩]) (.cond (.t 18) (.seq (.reg [⟨some 4, none, .mv (.c (.bool false))⟩]) .ret) .skip))) (.reg [⟨some 11, none, .mv (.t 5)⟩, ⟨some 12, none, .bin .add (.t 11) (.c (.int .i64 1))⟩, ⟨some 5, none, .mv (.t 12)⟩])))))) (.seq (.seq (.reg [⟨some 6, none, .mv (.c (.int .i64 0))⟩]) (.block 2 (.loop (.seq (.seq (.reg [⟨some 19, none, .mv (.t 6)⟩, ⟨some 20, none, .mv (.t 0)⟩, ⟨some 21, none, .len (.t 20)⟩, ⟨some 22, none, .bin .lss (.t 19) (.t 21)⟩]) (.cond (.t 22) .skip (.exit 2))) (.seq (.block 3 (.seq (.reg [⟨some 25, none, .mv (.t 0)⟩, ⟨some 26, none, .mv (.t 6)⟩, ⟨some 27, none, .ixa (.t 25) (.t 26) 1⟩, ⟨some 28, none, .ld (.t 27) 1 false⟩, ⟨some 29, none, .call fn_spec_inRange [.t 28, .c (.int .i64 (-30)), .c (.int .i64 30)]⟩, ⟨some 30, none, .un .not (.t 29)⟩]) (.cond (.t 30) (.seq (.reg [⟨some 4, none, .mv (.c (.bool false))⟩]) .ret) .skip))) (.reg [⟨some 23, none, .mv (.t 6)⟩, ⟨some 24, none, .bin .add (.t 23) (.c (.int .i64 1))⟩, ⟨some 6, none, .mv (.t 24)⟩])))))) (.seq (.reg [⟨some 31, none, .mv (.t 0)⟩, ⟨some 32, none, .len (.t 31)⟩, ⟨some 33, none, .mv (.t 1)⟩, ⟨some 34, none, .len (.t 33)⟩, ⟨some 35, none, .bin .eql (.t 32) (.t 34)⟩, ⟨some 36, none, .mv (.t 35)⟩, ⟨some 37, some (36, true), .mv (.t 0)⟩, ⟨some 38, some (36, true), .len (.t 37)⟩, ⟨some 39, some (36, true), .call fn_spec_inRange [.t 38, .c (.int .i64 1), .c (.int .i64 8)]⟩, ⟨some 40, none, .pick (.t 36) (.t 39) (.c (.bool false))⟩, ⟨some 4, none, .mv (.t 40)⟩]) .ret)))
theorem code_spec_validLoads : HasCode Try.prog fn_spec_validLoads mc_spec_validLoads [.t 4] 41 := ⟨mixed, Try.f15, _, Try.func15, rfl, by kernel_rfl, by kernel_rfl, rfl, by kernel_rfl, rfl⟩

def mc_spec_inRange : MC :=
  .seq (.reg [⟨some 6, none, .mv (.c (.bool false))⟩]) (.seq (.reg [⟨some 7, none, .mv (.t 1)⟩, ⟨some 8, none, .mv (.t 0)⟩, ⟨some 9, none, .bin .leq (.t 7) (.t 8)⟩, ⟨some 10, none, .mv (.t 9)⟩, ⟨some 11, some (10, true), .mv (.t 0)⟩, ⟨some 12, some (10, true), .mv (.t 2)⟩, ⟨some 13, some (10, true), .bin .leq (.t 11) (.t 12)⟩, ⟨some 14, none, .pick (.t 10) (.t 13) (.c (.bool false))⟩, ⟨some 6, none, .mv (.t 14)⟩]) .ret)
theorem code_spec_inRange : HasCode Try.prog fn_spec_inRange mc_spec_inRange [.t 6] 15 := ⟨mixed, Try.f16, _, Try.func16, rfl, by kernel_rfl, by kernel_rfl, rfl, by kernel_rfl, rfl⟩

def mc_spec_mean : MC :=
  .seq (.reg [⟨some 8, none, .new [.int .i64 0, .int .i64 0]⟩]) (.seq (.reg [⟨some 9, none, .mv (.c (.int .i64 0))⟩]) (.seq (.reg [⟨some 10, none, .mv (.c (.int .i64 0))⟩]) (.seq (.seq (.reg [⟨some 12, none, .mv (.t 2)⟩, ⟨some 11, none, .mv (.t 12)⟩]) (.block 0 (.loop (.seq (.seq (.reg [⟨some 13, none, .mv (.t 11)⟩, ⟨some 14, none, .mv (.t 3)⟩, ⟨some 15, none, .bin .leq (.t 13) (.t 14)⟩]) (.cond (.t 15) .skip (.exit 0))) (.seq (.block 1 (.seq (.drq [⟨some 18, none, .mv (.t 9)⟩, ⟨some 19, none, .mv (.t 0)⟩, ⟨some 20, none, .mv (.t 11)⟩, ⟨some 21, none, .ixa (.t 19) (.t 20) 1⟩, ⟨some 22, none, .ld (.t 21) 1 false⟩, ⟨some 23, none, .mv (.t 1)⟩, ⟨some 24, none, .mv (.t 11)⟩, ⟨some 25, none, .ixa (.t 23) (.t 24) 1⟩, ⟨some 26, none, .ld (.t 25) 1 false⟩, ⟨some 27, none, .bin .mul (.t 22) (.t 26)⟩, ⟨some 28, none, .bin .add (.t 18) (.t 27)⟩, ⟨some 9, none, .mv (.t 28)⟩]) (.reg [⟨some 29, none, .mv (.t 10)⟩, ⟨some 30, none, .mv (.t 1)⟩, ⟨some 31, none, .mv (.t 11)⟩, ⟨some 32, none, .ixa (.t 30) (.t 31) 1⟩, ⟨some 33, none, .ld (.t 32) 1 false⟩, ⟨some 34, none, .bin .add (.t 29) (.t 33)⟩, ⟨some 10, none, .mv (.t 34)⟩]))) (.reg [⟨some 16, none, .mv (.t 11)⟩, ⟨some 17, none, .bin .add (.t 16) (.c (.int .i64 1))⟩, ⟨some 11, none, .mv (.t 17)⟩])))))) (.seq (.reg [⟨some 35, none, .mv (.t 9)⟩, ⟨some 36, none, .mv (.t 10)⟩, ⟨some 37, none, .call fn_spec_frac [.t 35, .t 36]⟩, ⟨none, none, .st (.t 8) (.t 37) 2⟩]) .ret))))
theorem code_spec_mean : HasCode Try.prog fn_spec_mean mc_spec_mean [.c 8 2 true] 38 := ⟨mixed, Try.f17, _, Try.func17, rfl, by kernel_rfl, by kernel_rfl, rfl, by kernel_rfl, rfl⟩

def mc_impl_ValidLoads : MC :=
  .seq (.reg [⟨some 4, none, .mv (.c (.bool false))⟩]) (.seq (.seq (.reg [⟨some 7, none, .mv (.t 0)⟩, ⟨some 8, none, .call fn_impl_validHeights [.t 7]⟩, ⟨some 9, none, .un .not (.t 8)⟩, ⟨some 10, none, .mv (.t 9)⟩, ⟨some 11, some (10, false), .mv (.t 1)⟩, ⟨some 12, some (10, false), .len (.t 11)⟩, ⟨some 13, some (10, false), .mv (.t 0)⟩, ⟨some 14, some (10, false), .len (.t 13)⟩, ⟨some 15, some (10, false), .bin .neq (.t 12) (.t 14)⟩, ⟨some 16, none, .pick (.t 10) (.c (.bool true)) (.t 15)⟩]) (.cond (.t 16) (.seq (.reg [⟨some 4, none, .mv (.c (.bool false))⟩]) .ret) .skip)) (.seq (.seq (.reg [⟨some 17, none, .mv (.t 1)⟩, ⟨some 18, none, .len (.t 17)⟩, ⟨some 19, none, .mv (.c (.int .i64 0))⟩]) (.block 0 (.loop (.seq (.reg [⟨some 20, none, .bin .lss (.t 19) (.t 18)⟩]) (.seq (.cond (.t 20) .skip (.exit 0)) (.seq (.block 1 (.seq (.reg [⟨some 21, none, .ixa (.t 17) (.t 19) 1⟩, ⟨some 22, none, .ld (.t 21) 1 false⟩, ⟨some 6, none, .mv (.t 22)⟩]) (.seq (.reg [⟨some 23, none, .mv (.t 6)⟩, ⟨some 24, none, .bin .lss (.t 23) (.c (.int .i64 1))⟩, ⟨some 25, none, .mv (.t 24)⟩, ⟨some 26, some (25, false), .mv (.t 6)⟩, ⟨some 27, some (25, false), .bin .gtr (.t 26) (.c (.int .i64 5))⟩, ⟨some 28, none, .pick (.t 25) (.c (.bool true)) (.t 27)⟩]) (.cond (.t 28) (.seq (.reg [⟨some 4, none, .mv (.c (.bool false))⟩]) .ret) .skip)))) (.reg [⟨some 29, none, .bin .add (.t 19) (.c (.int .i64 1))⟩, ⟨some 19, none, .mv (.t 29)⟩]))))))) (.seq (.reg [⟨some 4, none, .mv (.c (.bool true))⟩]) .ret)))
theorem code_impl_ValidLoads : HasCode Try.prog fn_impl_ValidLoads mc_impl_ValidLoads [.t 4] 30 := ⟨mixed, Try.f18, _, Try.func18, rfl, by kernel_rfl, by kernel_rfl, rfl, by kernel_rfl, rfl⟩

def mc_impl_meanOf : MC :=
  .seq (.reg [⟨some 2, none, .new [.int .i64 0, .int .i64 0]⟩]) (.seq (.reg [⟨some 4, none, .mv (.t 0)⟩, ⟨some 5, none, .call fn_impl_totalOf [.t 4]⟩, ⟨some 3, none, .new [.int .i64 0, .int .i64 0]⟩, ⟨none, none, .st (.t 3) (.t 5) 2⟩]) (.seq (.reg [⟨some 6, none, .fa (.t 3) 1⟩, ⟨some 7, none, .ld (.t 6) 1 false⟩, ⟨some 8, none, .fa (.t 3) 0⟩, ⟨some 9, none, .ld (.t 8) 1 false⟩, ⟨some 10, none, .call fn_impl_lowest [.t 7, .t 9]⟩, ⟨none, none, .st (.t 2) (.t 10) 2⟩]) .ret))
theorem code_impl_meanOf : HasCode Try.prog fn_impl_meanOf mc_impl_meanOf [.c 2 2 true] 11 := ⟨mixed, Try.f19, _, Try.func19, rfl, by kernel_rfl, by kernel_rfl, rfl, by kernel_rfl, rfl⟩

def mc_impl_cut : MC :=
  .seq (.reg [⟨some 6, none, .mv (.c .nilSlice)⟩]) (.seq (.reg [⟨some 7, none, .mv (.t 0)⟩, ⟨some 8, none, .mv (.t 1)⟩, ⟨some 9, none, .mv (.t 2)⟩, ⟨some 10, none, .bin .add (.t 9) (.c (.int .i64 1))⟩, ⟨some 11, none, .mv (.t 2)⟩, ⟨some 12, none, .bin .add (.t 11) (.c (.int .i64 1))⟩, ⟨some 13, none, .sl (.t 7) (some (.t 8)) (some (.t 10)) (some (.t 12)) 2⟩, ⟨some 6, none, .mv (.t 13)⟩]) .ret)
theorem code_impl_cut : HasCode Try.prog fn_impl_cut mc_impl_cut [.t 6] 14 := ⟨mixed, Try.f20, _, Try.func20, rfl, by kernel_rfl, by kernel_rfl, rfl, by kernel_rfl, rfl⟩

def mc_impl_loadsOf : MC :=
  .seq (.reg [⟨some 4, none, .mv (.c .nilSlice)⟩]) (.seq (.reg [⟨some 8, none, .mv (.t 0)⟩, ⟨some 9, none, .len (.t 8)⟩, ⟨some 10, none, .mks (.t 9) (.t 9) [.int .i64 0, .int .i64 0] 2 16⟩, ⟨some 5, none, .mv (.t 10)⟩]) (.seq (.seq (.reg [⟨some 11, none, .mv (.t 0)⟩, ⟨some 12, none, .len (.t 11)⟩, ⟨some 13, none, .mv (.c (.int .i64 0))⟩]) (.block 0 (.loop (.seq (.reg [⟨some 14, none, .bin .lss (.t 13) (.t 12)⟩]) (.seq (.cond (.t 14) .skip (.exit 0)) (.seq (.block 1 (.seq (.reg [⟨some 15, none, .mv (.t 13)⟩, ⟨some 16, none, .ixa (.t 11) (.t 13) 1⟩, ⟨some 17, none, .ld (.t 16) 1 false⟩, ⟨some 6, none, .mv (.t 15)⟩, ⟨some 7, none, .mv (.t 17)⟩]) (.reg [⟨some 18, none, .mv (.t 5)⟩, ⟨some 19, none, .mv (.t 6)⟩, ⟨some 20, none, .mv (.t 7)⟩, ⟨some 21, none, .mv (.t 1)⟩, ⟨some 22, none, .mv (.t 6)⟩, ⟨some 23, none, .ixa (.t 21) (.t 22) 1⟩, ⟨some 24, none, .ld (.t 23) 1 false⟩, ⟨some 25, none, .bld [.int .i64 0, .int .i64 0] [(0, 1, .t 20), (1, 1, .t 24)]⟩, ⟨some 26, none, .ixa (.t 18) (.t 19) 2⟩, ⟨none, none, .st (.t 26) (.t 25) 2⟩]))) (.reg [⟨some 27, none, .bin .add (.t 13) (.c (.int .i64 1))⟩, ⟨some 13, none, .mv (.t 27)⟩]))))))) (.seq (.reg [⟨some 28, none, .mv (.t 5)⟩, ⟨some 4, none, .mv (.t 28)⟩]) .ret)))
theorem code_impl_loadsOf : HasCode Try.prog fn_impl_loadsOf mc_impl_loadsOf [.t 4] 29 := ⟨mixed, Try.f21, _, Try.func21, rfl, by kernel_rfl, by kernel_rfl, rfl, by kernel_rfl, rfl⟩

def mc_spec_frac : MC :=
  .seq (.reg [⟨some 4, none, .new [.int .i64 0, .int .i64 0]⟩]) (.seq (.seq (.reg [⟨some 6, none, .mv (.t 1)⟩, ⟨some 7, none, .bin .lss (.t 6) (.c (.int .i64 0))⟩]) (.cond (.t 7) (.seq (.reg [⟨some 8, none, .mv (.t 0)⟩, ⟨some 9, none, .un .neg (.t 8)⟩, ⟨some 0, none, .mv (.t 9)⟩]) (.reg [⟨some 10, none, .mv (.t 1)⟩, ⟨some 11, none, .un .neg (.t 10)⟩, ⟨some 1, none, .mv (.t 11)⟩])) .skip)) (.seq (.reg [⟨some 12, none, .mv (.t 0)⟩, ⟨some 13, none, .mv (.t 1)⟩, ⟨some 14, none, .call fn_spec_gcd [.t 12, .t 13]⟩, ⟨some 5, none, .mv (.t 14)⟩]) (.seq (.drw [⟨some 15, none, .mv (.t 0)⟩, ⟨some 16, none, .mv (.t 5)⟩, ⟨some 17, none, .bin .quo (.t 15) (.t 16)⟩, ⟨some 18, none, .mv (.t 1)⟩, ⟨some 19, none, .mv (.t 5)⟩, ⟨some 20, none, .bin .quo (.t 18) (.t 19)⟩, ⟨some 21, none, .bld [.int .i64 0, .int .i64 0] [(0, 1, .t 17), (1, 1, .t 20)]⟩, ⟨none, none, .st (.t 4) (.t 21) 2⟩] []) .ret)))
theorem code_spec_frac : HasCode Try.prog fn_spec_frac mc_spec_frac [.c 4 2 true] 22 := ⟨mixed, Try.f27, _, Try.func27, rfl, by kernel_rfl, by kernel_rfl, rfl, by kernel_rfl, rfl⟩

def mc_impl_validHeights : MC :=
  .seq (.reg [⟨some 2, none, .mv (.c (.bool false))⟩]) (.seq (.seq (.reg [⟨some 5, none, .mv (.t 0)⟩, ⟨some 6, none, .len (.t 5)⟩, ⟨some 7, none, .bin .lss (.t 6) (.c (.int .i64 1))⟩, ⟨some 8, none, .mv (.t 7)⟩, ⟨some 9, some (8, false), .mv (.t 0)⟩, ⟨some 10, some (8, false), .len (.t 9)⟩, ⟨some 11, some (8, false), .bin .gtr (.t 10) (.c (.int .i64 8))⟩, ⟨some 12, none, .pick (.t 8) (.c (.bool true)) (.t 11)⟩]) (.cond (.t 12) (.seq (.reg [⟨some 2, none, .mv (.c (.bool false))⟩]) .ret) .skip)) (.seq (.seq (.reg [⟨some 13, none, .mv (.t 0)⟩, ⟨some 14, none, .len (.t 13)⟩, ⟨some 15, none, .mv (.c (.int .i64 0))⟩]) (.block 0 (.loop (.seq (.reg [⟨some 16, none, .bin .lss (.t 15) (.t 14)⟩]) (.seq (.cond (.t 16) .skip (.exit 0)) (.seq (.block 1 (.seq (.reg [⟨some 17, none, .ixa (.t 13) (.t 15) 1⟩, ⟨some 18, none, .ld (.t 17) 1 false⟩, ⟨some 4, none, .mv (.t 18)⟩]) (.seq (.reg [⟨some 19, none, .mv (.t 4)⟩, ⟨some 20, none, .bin .lss (.t 19) (.c (.int .i64 (-30)))⟩, ⟨some 21, none, .mv (.t 20)⟩, ⟨some 22, some (21, false), .mv (.t 4)⟩, ⟨some 23, some (21, false), .bin .gtr (.t 22) (.c (.int .i64 30))⟩, ⟨some 24, none, .pick (.t 21) (.c (.bool true)) (.t 23)⟩]) (.cond (.t 24) (.seq (.reg [⟨some 2, none, .mv (.c (.bool false))⟩]) .ret) .skip)))) (.reg [⟨some 25, none, .bin .add (.t 15) (.c (.int .i64 1))⟩, ⟨some 15, none, .mv (.t 25)⟩]))))))) (.seq (.reg [⟨some 2, none, .mv (.c (.bool true))⟩]) .ret)))
theorem code_impl_validHeights : HasCode Try.prog fn_impl_validHeights mc_impl_validHeights [.t 2] 26 := ⟨mixed, Try.f28, _, Try.func28, rfl, by kernel_rfl, by kernel_rfl, rfl, by kernel_rfl, rfl⟩

def mc_impl_totalOf : MC :=
  .seq (.reg [⟨some 2, none, .new [.int .i64 0, .int .i64 0]⟩]) (.seq (.reg [⟨some 3, none, .new [.int .i64 0, .int .i64 0]⟩]) (.seq (.seq (.reg [⟨some 6, none, .mv (.t 0)⟩, ⟨some 7, none, .len (.t 6)⟩, ⟨some 8, none, .mv (.c (.int .i64 0))⟩]) (.block 0 (.loop (.seq (.reg [⟨some 9, none, .bin .lss (.t 8) (.t 7)⟩]) (.seq (.cond (.t 9) .skip (.exit 0)) (.seq (.block 1 (.seq (.reg [⟨some 10, none, .ixa (.t 6) (.t 8) 2⟩, ⟨some 11, none, .ld (.t 10) 2 true⟩, ⟨some 5, none, .new [.int .i64 0, .int .i64 0]⟩, ⟨none, none, .st (.t 5) (.t 11) 2⟩]) (.seq (.reg [⟨some 12, none, .fa (.t 3) 0⟩, ⟨some 13, none, .ld (.t 12) 1 false⟩, ⟨some 14, none, .fa (.t 5) 1⟩, ⟨some 15, none, .ld (.t 14) 1 false⟩, ⟨some 16, none, .bin .add (.t 13) (.t 15)⟩, ⟨some 17, none, .fa (.t 3) 0⟩, ⟨none, none, .st (.t 17) (.t 16) 1⟩]) (.reg [⟨some 18, none, .fa (.t 3) 1⟩, ⟨some 19, none, .ld (.t 18) 1 false⟩, ⟨some 20, none, .fa (.t 5) 0⟩, ⟨some 21, none, .ld (.t 20) 1 false⟩, ⟨some 22, none, .fa (.t 5) 1⟩, ⟨some 23, none, .ld (.t 22) 1 false⟩, ⟨some 24, none, .bin .mul (.t 21) (.t 23)⟩, ⟨some 25, none, .bin .add (.t 19) (.t 24)⟩, ⟨some 26, none, .fa (.t 3) 1⟩, ⟨none, none, .st (.t 26) (.t 25) 1⟩])))) (.reg [⟨some 27, none, .bin .add (.t 8) (.c (.int .i64 1))⟩, ⟨some 8, none, .mv (.t 27)⟩]))))))) (.seq (.reg [⟨some 28, none, .ld (.t 3) 2 true⟩, ⟨none, none, .st (.t 2) (.t 28) 2⟩]) .ret)))
theorem code_impl_totalOf : HasCode Try.prog fn_impl_totalOf mc_impl_totalOf [.c 2 2 true] 29 := ⟨mixed, Try.f29, _, Try.func29, rfl, by kernel_rfl, by kernel_rfl, rfl, by kernel_rfl, rfl⟩

def mc_impl_lowest : MC :=
  .seq (.reg [⟨some 4, none, .new [.int .i64 0, .int .i64 0]⟩]) (.seq (.reg [⟨some 6, none, .mv (.t 0)⟩, ⟨some 7, none, .mv (.t 1)⟩, ⟨some 8, none, .call fn_impl_commonFactor [.t 6, .t 7]⟩, ⟨some 5, none, .mv (.t 8)⟩]) (.seq (.seq (.reg [⟨some 9, none, .mv (.t 1)⟩, ⟨some 10, none, .bin .lss (.t 9) (.c (.int .i64 0))⟩]) (.cond (.t 10) (.reg [⟨some 11, none, .mv (.t 5)⟩, ⟨some 12, none, .un .neg (.t 11)⟩, ⟨some 5, none, .mv (.t 12)⟩]) .skip)) (.seq (.drw [⟨some 13, none, .mv (.t 0)⟩, ⟨some 14, none, .mv (.t 5)⟩, ⟨some 15, none, .bin .quo (.t 13) (.t 14)⟩, ⟨some 16, none, .mv (.t 1)⟩, ⟨some 17, none, .mv (.t 5)⟩, ⟨some 18, none, .bin .quo (.t 16) (.t 17)⟩, ⟨some 19, none, .bld [.int .i64 0, .int .i64 0] [(0, 1, .t 15), (1, 1, .t 18)]⟩, ⟨none, none, .st (.t 4) (.t 19) 2⟩] []) .ret)))
theorem code_impl_lowest : HasCode Try.prog fn_impl_lowest mc_impl_lowest [.c 4 2 true] 20 := ⟨mixed, Try.f30, _, Try.func30, rfl, by kernel_rfl, by kernel_rfl, rfl, by kernel_rfl, rfl⟩

def mc_spec_gcd : MC :=
  .seq (.reg [⟨some 4, none, .mv (.c (.int .i64 0))⟩]) (.seq (.block 0 (.loop (.seq (.seq (.reg [⟨some 6, none, .mv (.t 1)⟩, ⟨some 7, none, .bin .neq (.t 6) (.c (.int .i64 0))⟩]) (.cond (.t 7) .skip (.exit 0))) (.block 1 (.seq (.reg [⟨some 8, none, .mv (.t 0)⟩, ⟨some 9, none, .mv (.t 1)⟩, ⟨some 10, none, .bin .rem (.t 8) (.t 9)⟩, ⟨some 5, none, .mv (.t 10)⟩]) (.seq (.reg [⟨some 11, none, .mv (.t 1)⟩, ⟨some 0, none, .mv (.t 11)⟩]) (.reg [⟨some 12, none, .mv (.t 5)⟩, ⟨some 1, none, .mv (.t 12)⟩]))))))) (.seq (.reg [⟨some 13, none, .mv (.t 0)⟩, ⟨some 14, none, .mv (.t 0)⟩, ⟨some 15, none, .un .neg (.t 14)⟩, ⟨some 16, none, .mnmx true (.t 13) [.t 15]⟩, ⟨some 4, none, .mv (.t 16)⟩]) .ret))
theorem code_spec_gcd : HasCode Try.prog fn_spec_gcd mc_spec_gcd [.t 4] 17 := ⟨mixed, Try.f31, _, Try.func31, rfl, by kernel_rfl, by kernel_rfl, rfl, by kernel_rfl, rfl⟩

def mc_impl_commonFactor : MC :=
  .seq (.reg [⟨some 4, none, .mv (.c (.int .i64 0))⟩]) (.seq (.block 0 (.loop (.seq (.seq (.reg [⟨some 5, none, .mv (.t 1)⟩, ⟨some 6, none, .bin .neq (.t 5) (.c (.int .i64 0))⟩]) (.cond (.t 6) .skip (.exit 0))) (.block 1 (.drq [⟨some 7, none, .mv (.t 1)⟩, ⟨some 8, none, .mv (.t 0)⟩, ⟨some 9, none, .mv (.t 1)⟩, ⟨some 10, none, .bin .rem (.t 8) (.t 9)⟩, ⟨some 0, none, .mv (.t 7)⟩, ⟨some 1, none, .mv (.t 10)⟩]))))) (.seq (.reg [⟨some 11, none, .mv (.t 0)⟩, ⟨some 12, none, .call fn_impl_apart [.t 11, .c (.int .i64 0)]⟩, ⟨some 4, none, .mv (.t 12)⟩]) .ret))
theorem code_impl_commonFactor : HasCode Try.prog fn_impl_commonFactor mc_impl_commonFactor [.t 4] 13 := ⟨mixed, Try.f32, _, Try.func32, rfl, by kernel_rfl, by kernel_rfl, rfl, by kernel_rfl, rfl⟩

def mc_impl_apart : MC :=
  .seq (.reg [⟨some 4, none, .mv (.c (.int .i64 0))⟩]) (.seq (.reg [⟨some 5, none, .mv (.t 0)⟩, ⟨some 6, none, .mv (.t 1)⟩, ⟨some 7, none, .bin .sub (.t 5) (.t 6)⟩, ⟨some 8, none, .mv (.t 1)⟩, ⟨some 9, none, .mv (.t 0)⟩, ⟨some 10, none, .bin .sub (.t 8) (.t 9)⟩, ⟨some 11, none, .mnmx true (.t 7) [.t 10]⟩, ⟨some 4, none, .mv (.t 11)⟩]) .ret)
theorem code_impl_apart : HasCode Try.prog fn_impl_apart mc_impl_apart [.t 4] 12 := ⟨mixed, Try.f33, _, Try.func33, rfl, by kernel_rfl, by kernel_rfl, rfl, by kernel_rfl, rfl⟩

end Go.Rx.Try
