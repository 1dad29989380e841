/-
  The code of each function of the program, taken up. Made by a program.
-/
import Derived.Test.YtophpmdlgphihaaProg
import Derived.Test.YtophpmdlgphihaaRxI
import Derived.KernelRfl
namespace Go.Rx.Try
open Go.Proofs
set_option maxRecDepth 100000

abbrev fn_laws_FnExactPieceMiss : FuncId := 3
abbrev fn_laws_FnPieceMiss : FuncId := 4
abbrev fn_spec_PieceMiss : FuncId := 5
abbrev fn_laws_toIntS : FuncId := 6
abbrev fn_impl_PieceMiss : FuncId := 7
abbrev fn_laws_eqFrac : FuncId := 8
abbrev fn_laws_eqIntS : FuncId := 9
abbrev fn_spec_DrawPieceMiss : FuncId := 10
abbrev fn_laws_lessOf : FuncId := 11
abbrev fn_spec_validSteps : FuncId := 12
abbrev fn_spec_inRange : FuncId := 13
abbrev fn_spec_miss : FuncId := 14
abbrev fn_impl_validHeights : FuncId := 15
abbrev fn_impl_missedSquares : FuncId := 16
abbrev fn_spec_newReader : FuncId := 17
abbrev fn_spec_stepList : FuncId := 18
abbrev fn_spec_reader_pick : FuncId := 19
abbrev fn_spec_reader_one : FuncId := 20
abbrev fn_spec_frac : FuncId := 21
abbrev fn_impl_lowest : FuncId := 22
abbrev fn_spec_gcd : FuncId := 23
abbrev fn_impl_commonFactor : FuncId := 24
abbrev fn_impl_apart : FuncId := 25
abbrev fn_runtime_boundsError_Error : FuncId := 26
abbrev fn_runtime_boundsError_RuntimeError : FuncId := 27
abbrev fn_runtime_errorString_Error : FuncId := 28
abbrev fn_runtime_errorString_RuntimeError : FuncId := 29
abbrev fn_runtime_plainError_Error : FuncId := 30
abbrev fn_runtime_plainError_RuntimeError : FuncId := 31
abbrev fn_runtime_errorAddressString_Error : FuncId := 32
abbrev fn_runtime_errorAddressString_RuntimeError : FuncId := 33
abbrev fn_runtime_TypeAssertionError_Error : FuncId := 34
abbrev fn_runtime_TypeAssertionError_RuntimeError : FuncId := 35
abbrev fn_runtime_PanicNilError_Error : FuncId := 36
abbrev fn_runtime_PanicNilError_RuntimeError : FuncId := 37
abbrev fn_internal_abi_Type_Align : FuncId := 38
abbrev fn_internal_runtime_maps_unhashableTypeError_Error : FuncId := 39
abbrev fn_internal_runtime_maps_unhashableTypeError_RuntimeError : FuncId := 40
abbrev fn_impl_Frac_size : FuncId := 41
abbrev fn_internal_abi_Kind_String : FuncId := 42
abbrev ty_abi_BoundsErrorCode : TypeId := 6
abbrev ty_maps_unhashableTypeError : TypeId := 19
abbrev ty_impl_Frac : TypeId := 24
abbrev ty_spec_reader : TypeId := 46
abbrev ty_abi_TFlag : TypeId := 56
abbrev ty_abi_Kind : TypeId := 57
abbrev ty_abi_NameOff : TypeId := 60
abbrev ty_abi_TypeOff : TypeId := 61
abbrev ty_abi_Type : TypeId := 63
theorem mixed : Try.prog.follows .mixedOrders = true := by kernel_rfl

def mc_laws_FnExactPieceMiss : MC :=
  .seq (.reg [⟨some 6, none, .mv (.c (.bool false))⟩]) (.seq (.seq (.reg [⟨some 12, none, .mv (.t 0)⟩, ⟨some 13, none, .len (.t 12)⟩, ⟨some 14, none, .bin .gtr (.t 13) (.c (.int .i64 1048576))⟩]) (.cond (.t 14) (.seq (.reg [⟨some 6, none, .mv (.c (.bool true))⟩]) .ret) .skip)) (.seq (.reg [⟨some 16, none, .mv (.t 0)⟩, ⟨some 17, none, .call fn_laws_toIntS [.t 16]⟩, ⟨some 18, none, .mv (.t 1)⟩, ⟨some 19, none, .mv (.t 2)⟩, ⟨some 20, none, .call fn_spec_PieceMiss [.t 17, .t 18, .t 19]⟩, ⟨some 15, none, .mv (.t 20)⟩, ⟨some 21, none, .ext (.t 15) 0⟩, ⟨some 22, none, .ext (.t 15) 1⟩, ⟨some 7, none, .new [.int .i64 0, .int .i64 0]⟩, ⟨none, none, .st (.t 7) (.t 21) 2⟩, ⟨some 8, none, .mv (.t 22)⟩]) (.seq (.reg [⟨some 23, none, .mv (.t 0)⟩, ⟨some 24, none, .call fn_laws_toIntS [.t 23]⟩, ⟨some 9, none, .mv (.t 24)⟩]) (.seq (.reg [⟨some 26, none, .mv (.t 9)⟩, ⟨some 27, none, .mv (.t 1)⟩, ⟨some 28, none, .mv (.t 2)⟩, ⟨some 29, none, .call fn_impl_PieceMiss [.t 26, .t 27, .t 28]⟩, ⟨some 25, none, .mv (.t 29)⟩, ⟨some 30, none, .ext (.t 25) 0⟩, ⟨some 31, none, .ext (.t 25) 1⟩, ⟨some 10, none, .new [.int .i64 0, .int .i64 0]⟩, ⟨none, none, .st (.t 10) (.t 30) 2⟩, ⟨some 11, none, .mv (.t 31)⟩]) (.seq (.seq (.reg [⟨some 32, none, .ld (.t 10) 2 true⟩, ⟨some 33, none, .ld (.t 7) 2 true⟩, ⟨some 34, none, .call fn_laws_eqFrac [.t 32, .t 33]⟩, ⟨some 35, none, .un .not (.t 34)⟩, ⟨some 36, none, .mv (.t 35)⟩, ⟨some 37, some (36, false), .mv (.t 11)⟩, ⟨some 38, some (36, false), .mv (.t 8)⟩, ⟨some 39, some (36, false), .beq true (.t 37) (.t 38)⟩, ⟨some 40, none, .pick (.t 36) (.c (.bool true)) (.t 39)⟩]) (.cond (.t 40) (.seq (.reg [⟨some 6, none, .mv (.c (.bool false))⟩]) .ret) .skip)) (.seq (.seq (.reg [⟨some 41, none, .mv (.t 9)⟩, ⟨some 42, none, .mv (.t 0)⟩, ⟨some 43, none, .call fn_laws_toIntS [.t 42]⟩, ⟨some 44, none, .call fn_laws_eqIntS [.t 41, .t 43]⟩, ⟨some 45, none, .un .not (.t 44)⟩]) (.cond (.t 45) (.seq (.reg [⟨some 6, none, .mv (.c (.bool false))⟩]) .ret) .skip)) (.seq (.reg [⟨some 6, none, .mv (.c (.bool true))⟩]) .ret)))))))
theorem code_laws_FnExactPieceMiss : HasCode Try.prog fn_laws_FnExactPieceMiss mc_laws_FnExactPieceMiss [.t 6] 46 := ⟨mixed, Try.f3, _, Try.func3, rfl, by kernel_rfl, by kernel_rfl, rfl, by kernel_rfl, rfl⟩

def mc_spec_PieceMiss : MC :=
  .seq (.reg [⟨some 6, none, .new [.int .i64 0, .int .i64 0]⟩, ⟨some 7, none, .mv (.c (.bool false))⟩]) (.seq (.seq (.reg [⟨some 8, none, .mv (.t 0)⟩, ⟨some 9, none, .call fn_spec_validSteps [.t 8]⟩, ⟨some 10, none, .un .not (.t 9)⟩, ⟨some 11, none, .mv (.t 10)⟩, ⟨some 12, some (11, false), .mv (.t 1)⟩, ⟨some 13, some (11, false), .mv (.t 0)⟩, ⟨some 14, some (11, false), .len (.t 13)⟩, ⟨some 15, some (11, false), .bin .sub (.t 14) (.c (.int .i64 1))⟩, ⟨some 16, some (11, false), .call fn_spec_inRange [.t 12, .c (.int .i64 0), .t 15]⟩, ⟨some 17, some (11, false), .un .not (.t 16)⟩, ⟨some 18, none, .pick (.t 11) (.c (.bool true)) (.t 17)⟩, ⟨some 19, none, .mv (.t 18)⟩, ⟨some 20, some (19, false), .mv (.t 2)⟩, ⟨some 21, some (19, false), .mv (.t 1)⟩, ⟨some 22, some (19, false), .mv (.t 0)⟩, ⟨some 23, some (19, false), .len (.t 22)⟩, ⟨some 24, some (19, false), .bin .sub (.t 23) (.c (.int .i64 1))⟩, ⟨some 25, some (19, false), .call fn_spec_inRange [.t 20, .t 21, .t 24]⟩, ⟨some 26, some (19, false), .un .not (.t 25)⟩, ⟨some 27, none, .pick (.t 19) (.c (.bool true)) (.t 26)⟩]) (.cond (.t 27) (.seq (.reg [⟨some 28, none, .bld [.int .i64 0, .int .i64 0] []⟩, ⟨none, none, .st (.t 6) (.t 28) 2⟩, ⟨some 7, none, .mv (.c (.bool false))⟩]) .ret) .skip)) (.seq (.reg [⟨some 29, none, .mv (.t 0)⟩, ⟨some 30, none, .mv (.t 1)⟩, ⟨some 31, none, .mv (.t 2)⟩, ⟨some 32, none, .bin .add (.t 31) (.c (.int .i64 1))⟩, ⟨some 33, none, .call fn_spec_miss [.t 29, .t 30, .t 32]⟩, ⟨none, none, .st (.t 6) (.t 33) 2⟩, ⟨some 7, none, .mv (.c (.bool true))⟩]) .ret))
theorem code_spec_PieceMiss : HasCode Try.prog fn_spec_PieceMiss mc_spec_PieceMiss [.c 6 2 true, .t 7] 34 := ⟨mixed, Try.f5, _, Try.func5, rfl, by kernel_rfl, by kernel_rfl, rfl, by kernel_rfl, rfl⟩

def mc_laws_toIntS : MC :=
  .seq (.reg [⟨some 2, none, .mv (.c .nilSlice)⟩]) (.seq (.reg [⟨some 5, none, .mv (.t 0)⟩, ⟨some 6, none, .len (.t 5)⟩, ⟨some 7, none, .mks (.t 6) (.t 6) [.int .i64 0] 1 8⟩, ⟨some 3, none, .mv (.t 7)⟩]) (.seq (.seq (.reg [⟨some 4, none, .mv (.c (.int .i64 0))⟩]) (.block 0 (.loop (.seq (.seq (.reg [⟨some 8, none, .mv (.t 4)⟩, ⟨some 9, none, .mv (.t 0)⟩, ⟨some 10, none, .len (.t 9)⟩, ⟨some 11, none, .bin .lss (.t 8) (.t 10)⟩]) (.cond (.t 11) .skip (.exit 0))) (.seq (.block 1 (.reg [⟨some 14, none, .mv (.t 3)⟩, ⟨some 15, none, .mv (.t 4)⟩, ⟨some 16, none, .mv (.t 0)⟩, ⟨some 17, none, .mv (.t 4)⟩, ⟨some 18, none, .ixa (.t 16) (.t 17) 1⟩, ⟨some 19, none, .ld (.t 18) 1 false⟩, ⟨some 20, none, .ixa (.t 14) (.t 15) 1⟩, ⟨none, none, .st (.t 20) (.t 19) 1⟩])) (.reg [⟨some 12, none, .mv (.t 4)⟩, ⟨some 13, none, .bin .add (.t 12) (.c (.int .i64 1))⟩, ⟨some 4, none, .mv (.t 13)⟩])))))) (.seq (.reg [⟨some 21, none, .mv (.t 3)⟩, ⟨some 2, none, .mv (.t 21)⟩]) .ret)))
theorem code_laws_toIntS : HasCode Try.prog fn_laws_toIntS mc_laws_toIntS [.t 2] 22 := ⟨mixed, Try.f6, _, Try.func6, rfl, by kernel_rfl, by kernel_rfl, rfl, by kernel_rfl, rfl⟩

def mc_impl_PieceMiss : MC :=
  .seq (.reg [⟨some 6, none, .new [.int .i64 0, .int .i64 0]⟩, ⟨some 7, none, .mv (.c (.bool false))⟩]) (.seq (.seq (.reg [⟨some 8, none, .mv (.t 0)⟩, ⟨some 9, none, .call fn_impl_validHeights [.t 8]⟩, ⟨some 10, none, .un .not (.t 9)⟩, ⟨some 11, none, .mv (.t 10)⟩, ⟨some 12, some (11, false), .mv (.t 1)⟩, ⟨some 13, some (11, false), .bin .lss (.t 12) (.c (.int .i64 0))⟩, ⟨some 14, none, .pick (.t 11) (.c (.bool true)) (.t 13)⟩, ⟨some 15, none, .mv (.t 14)⟩, ⟨some 16, some (15, false), .mv (.t 2)⟩, ⟨some 17, some (15, false), .mv (.t 1)⟩, ⟨some 18, some (15, false), .bin .lss (.t 16) (.t 17)⟩, ⟨some 19, none, .pick (.t 15) (.c (.bool true)) (.t 18)⟩, ⟨some 20, none, .mv (.t 19)⟩, ⟨some 21, some (20, false), .mv (.t 2)⟩, ⟨some 22, some (20, false), .mv (.t 0)⟩, ⟨some 23, some (20, false), .len (.t 22)⟩, ⟨some 24, some (20, false), .bin .geq (.t 21) (.t 23)⟩, ⟨some 25, none, .pick (.t 20) (.c (.bool true)) (.t 24)⟩]) (.cond (.t 25) (.seq (.reg [⟨some 26, none, .bld [.int .i64 0, .int .i64 0] []⟩, ⟨none, none, .st (.t 6) (.t 26) 2⟩, ⟨some 7, none, .mv (.c (.bool false))⟩]) .ret) .skip)) (.seq (.reg [⟨some 27, none, .mv (.t 0)⟩, ⟨some 28, none, .mv (.t 1)⟩, ⟨some 29, none, .mv (.t 2)⟩, ⟨some 30, none, .bin .add (.t 29) (.c (.int .i64 1))⟩, ⟨some 31, none, .sl (.t 27) (some (.t 28)) (some (.t 30)) none 1⟩, ⟨some 32, none, .call fn_impl_missedSquares [.t 31]⟩, ⟨none, none, .st (.t 6) (.t 32) 2⟩, ⟨some 7, none, .mv (.c (.bool true))⟩]) .ret))
theorem code_impl_PieceMiss : HasCode Try.prog fn_impl_PieceMiss mc_impl_PieceMiss [.c 6 2 true, .t 7] 33 := ⟨mixed, Try.f7, _, Try.func7, rfl, by kernel_rfl, by kernel_rfl, rfl, by kernel_rfl, rfl⟩

def mc_laws_eqFrac : MC :=
  .seq (.reg [⟨some 2, none, .box (.t 0)⟩, ⟨some 3, none, .box (.t 1)⟩, ⟨some 4, none, .mv (.c (.bool false))⟩]) (.seq (.seq (.reg [⟨some 5, none, .fa (.t 2) 0⟩, ⟨some 6, none, .ld (.t 5) 1 false⟩, ⟨some 7, none, .fa (.t 3) 0⟩, ⟨some 8, none, .ld (.t 7) 1 false⟩, ⟨some 9, none, .bin .neq (.t 6) (.t 8)⟩]) (.cond (.t 9) (.seq (.reg [⟨some 4, none, .mv (.c (.bool false))⟩]) .ret) .skip)) (.seq (.seq (.reg [⟨some 10, none, .fa (.t 2) 1⟩, ⟨some 11, none, .ld (.t 10) 1 false⟩, ⟨some 12, none, .fa (.t 3) 1⟩, ⟨some 13, none, .ld (.t 12) 1 false⟩, ⟨some 14, none, .bin .neq (.t 11) (.t 13)⟩]) (.cond (.t 14) (.seq (.reg [⟨some 4, none, .mv (.c (.bool false))⟩]) .ret) .skip)) (.seq (.reg [⟨some 4, none, .mv (.c (.bool true))⟩]) .ret)))
theorem code_laws_eqFrac : HasCode Try.prog fn_laws_eqFrac mc_laws_eqFrac [.t 4] 15 := ⟨mixed, Try.f8, _, Try.func8, rfl, by kernel_rfl, by kernel_rfl, rfl, by kernel_rfl, rfl⟩

def mc_laws_eqIntS : MC :=
  .seq (.reg [⟨some 4, none, .mv (.c (.bool false))⟩]) (.seq (.seq (.reg [⟨some 6, none, .mv (.t 0)⟩, ⟨some 7, none, .len (.t 6)⟩, ⟨some 8, none, .mv (.t 1)⟩, ⟨some 9, none, .len (.t 8)⟩, ⟨some 10, none, .bin .neq (.t 7) (.t 9)⟩]) (.cond (.t 10) (.seq (.reg [⟨some 4, none, .mv (.c (.bool false))⟩]) .ret) .skip)) (.seq (.seq (.reg [⟨some 5, none, .mv (.c (.int .i64 0))⟩]) (.block 0 (.loop (.seq (.seq (.reg [⟨some 11, none, .mv (.t 5)⟩, ⟨some 12, none, .mv (.t 0)⟩, ⟨some 13, none, .len (.t 12)⟩, ⟨some 14, none, .bin .lss (.t 11) (.t 13)⟩]) (.cond (.t 14) .skip (.exit 0))) (.seq (.block 1 (.seq (.drq [⟨some 17, none, .mv (.t 0)⟩, ⟨some 18, none, .mv (.t 5)⟩, ⟨some 19, none, .ixa (.t 17) (.t 18) 1⟩, ⟨some 20, none, .ld (.t 19) 1 false⟩, ⟨some 21, none, .mv (.t 1)⟩, ⟨some 22, none, .mv (.t 5)⟩, ⟨some 23, none, .ixa (.t 21) (.t 22) 1⟩, ⟨some 24, none, .ld (.t 23) 1 false⟩, ⟨some 25, none, .bin .neq (.t 20) (.t 24)⟩]) (.cond (.t 25) (.seq (.reg [⟨some 4, none, .mv (.c (.bool false))⟩]) .ret) .skip))) (.reg [⟨some 15, none, .mv (.t 5)⟩, ⟨some 16, none, .bin .add (.t 15) (.c (.int .i64 1))⟩, ⟨some 5, none, .mv (.t 16)⟩])))))) (.seq (.reg [⟨some 4, none, .mv (.c (.bool true))⟩]) .ret)))
theorem code_laws_eqIntS : HasCode Try.prog fn_laws_eqIntS mc_laws_eqIntS [.t 4] 26 := ⟨mixed, Try.f9, _, Try.func9, rfl, by kernel_rfl, by kernel_rfl, rfl, by kernel_rfl, rfl⟩

def mc_spec_validSteps : MC :=
  .seq (.reg [⟨some 2, none, .mv (.c (.bool false))⟩]) (.seq (.seq (.reg [⟨some 3, none, .mv (.c (.int .i64 0))⟩]) (.block 0 (.loop (.seq (.seq (.reg [⟨some 4, none, .mv (.t 3)⟩, ⟨some 5, none, .mv (.t 0)⟩, ⟨some 6, none, .len (.t 5)⟩, ⟨some 7, none, .bin .lss (.t 4) (.t 6)⟩]) (.cond (.t 7) .skip (.exit 0))) (.seq (.block 1 (.seq (.reg [⟨some 10, none, .mv (.t 0)⟩, ⟨some 11, none, .mv (.t 3)⟩, ⟨some 12, none, .ixa (.t 10) (.t 11) 1⟩, ⟨some 13, none, .ld (.t 12) 1 false⟩, ⟨some 14, none, .call fn_spec_inRange [.t 13, .c (.int .i64 (-30)), .c (.int .i64 30)]⟩, ⟨some 15, none, .un .not (.t 14)⟩]) (.cond (.t 15) (.seq (.reg [⟨some 2, none, .mv (.c (.bool false))⟩]) .ret) .skip))) (.reg [⟨some 8, none, .mv (.t 3)⟩, ⟨some 9, none, .bin .add (.t 8) (.c (.int .i64 1))⟩, ⟨some 3, none, .mv (.t 9)⟩])))))) (.seq (.reg [⟨some 16, none, .mv (.t 0)⟩, ⟨some 17, none, .len (.t 16)⟩, ⟨some 18, none, .call fn_spec_inRange [.t 17, .c (.int .i64 1), .c (.int .i64 8)]⟩, ⟨some 2, none, .mv (.t 18)⟩]) .ret))
theorem code_spec_validSteps : HasCode Try.prog fn_spec_validSteps mc_spec_validSteps [.t 2] 19 := ⟨mixed, Try.f12, _, Try.func12, rfl, by kernel_rfl, by kernel_rfl, rfl, by kernel_rfl, rfl⟩

def mc_spec_inRange : MC :=
  .seq (.reg [⟨some 6, none, .mv (.c (.bool false))⟩]) (.seq (.reg [⟨some 7, none, .mv (.t 1)⟩, ⟨some 8, none, .mv (.t 0)⟩, ⟨some 9, none, .bin .leq (.t 7) (.t 8)⟩, ⟨some 10, none, .mv (.t 9)⟩, ⟨some 11, some (10, true), .mv (.t 0)⟩, ⟨some 12, some (10, true), .mv (.t 2)⟩, ⟨some 13, some (10, true), .bin .leq (.t 11) (.t 12)⟩, ⟨some 14, none, .pick (.t 10) (.t 13) (.c (.bool false))⟩, ⟨some 6, none, .mv (.t 14)⟩]) .ret)
theorem code_spec_inRange : HasCode Try.prog fn_spec_inRange mc_spec_inRange [.t 6] 15 := ⟨mixed, Try.f13, _, Try.func13, rfl, by kernel_rfl, by kernel_rfl, rfl, by kernel_rfl, rfl⟩

def mc_spec_miss : MC :=
  .seq (.reg [⟨some 6, none, .new [.int .i64 0, .int .i64 0]⟩]) (.seq (.reg [⟨some 11, none, .mv (.t 2)⟩, ⟨some 12, none, .mv (.t 1)⟩, ⟨some 13, none, .bin .sub (.t 11) (.t 12)⟩, ⟨some 7, none, .mv (.t 13)⟩]) (.seq (.reg [⟨some 8, none, .mv (.c (.int .i64 0))⟩]) (.seq (.reg [⟨some 9, none, .mv (.c (.int .i64 0))⟩]) (.seq (.seq (.reg [⟨some 14, none, .mv (.t 1)⟩, ⟨some 10, none, .mv (.t 14)⟩]) (.block 0 (.loop (.seq (.seq (.reg [⟨some 15, none, .mv (.t 10)⟩, ⟨some 16, none, .mv (.t 2)⟩, ⟨some 17, none, .bin .lss (.t 15) (.t 16)⟩]) (.cond (.t 17) .skip (.exit 0))) (.seq (.block 1 (.seq (.reg [⟨some 20, none, .mv (.t 8)⟩, ⟨some 21, none, .mv (.t 0)⟩, ⟨some 22, none, .mv (.t 10)⟩, ⟨some 23, none, .ixa (.t 21) (.t 22) 1⟩, ⟨some 24, none, .ld (.t 23) 1 false⟩, ⟨some 25, none, .bin .add (.t 20) (.t 24)⟩, ⟨some 8, none, .mv (.t 25)⟩]) (.drq [⟨some 26, none, .mv (.t 9)⟩, ⟨some 27, none, .mv (.t 0)⟩, ⟨some 28, none, .mv (.t 10)⟩, ⟨some 29, none, .ixa (.t 27) (.t 28) 1⟩, ⟨some 30, none, .ld (.t 29) 1 false⟩, ⟨some 31, none, .mv (.t 0)⟩, ⟨some 32, none, .mv (.t 10)⟩, ⟨some 33, none, .ixa (.t 31) (.t 32) 1⟩, ⟨some 34, none, .ld (.t 33) 1 false⟩, ⟨some 35, none, .bin .mul (.t 30) (.t 34)⟩, ⟨some 36, none, .bin .add (.t 26) (.t 35)⟩, ⟨some 9, none, .mv (.t 36)⟩]))) (.reg [⟨some 18, none, .mv (.t 10)⟩, ⟨some 19, none, .bin .add (.t 18) (.c (.int .i64 1))⟩, ⟨some 10, none, .mv (.t 19)⟩])))))) (.seq (.reg [⟨some 37, none, .mv (.t 7)⟩, ⟨some 38, none, .mv (.t 9)⟩, ⟨some 39, none, .bin .mul (.t 37) (.t 38)⟩, ⟨some 40, none, .mv (.t 8)⟩, ⟨some 41, none, .mv (.t 8)⟩, ⟨some 42, none, .bin .mul (.t 40) (.t 41)⟩, ⟨some 43, none, .bin .sub (.t 39) (.t 42)⟩, ⟨some 44, none, .mv (.t 7)⟩, ⟨some 45, none, .call fn_spec_frac [.t 43, .t 44]⟩, ⟨none, none, .st (.t 6) (.t 45) 2⟩]) .ret)))))
theorem code_spec_miss : HasCode Try.prog fn_spec_miss mc_spec_miss [.c 6 2 true] 46 := ⟨mixed, Try.f14, _, Try.func14, rfl, by kernel_rfl, by kernel_rfl, rfl, by kernel_rfl, rfl⟩

def mc_impl_validHeights : MC :=
  .seq (.reg [⟨some 2, none, .mv (.c (.bool false))⟩]) (.seq (.seq (.reg [⟨some 5, none, .mv (.t 0)⟩, ⟨some 6, none, .len (.t 5)⟩, ⟨some 7, none, .bin .lss (.t 6) (.c (.int .i64 1))⟩, ⟨some 8, none, .mv (.t 7)⟩, ⟨some 9, some (8, false), .mv (.t 0)⟩, ⟨some 10, some (8, false), .len (.t 9)⟩, ⟨some 11, some (8, false), .bin .gtr (.t 10) (.c (.int .i64 8))⟩, ⟨some 12, none, .pick (.t 8) (.c (.bool true)) (.t 11)⟩]) (.cond (.t 12) (.seq (.reg [⟨some 2, none, .mv (.c (.bool false))⟩]) .ret) .skip)) (.seq (.seq (.reg [⟨some 13, none, .mv (.t 0)⟩, ⟨some 14, none, .len (.t 13)⟩, ⟨some 15, none, .mv (.c (.int .i64 0))⟩]) (.block 0 (.loop (.seq (.reg [⟨some 16, none, .bin .lss (.t 15) (.t 14)⟩]) (.seq (.cond (.t 16) .skip (.exit 0)) (.seq (.block 1 (.seq (.reg [⟨some 17, none, .ixa (.t 13) (.t 15) 1⟩, ⟨some 18, none, .ld (.t 17) 1 false⟩, ⟨some 4, none, .mv (.t 18)⟩]) (.seq (.reg [⟨some 19, none, .mv (.t 4)⟩, ⟨some 20, none, .bin .lss (.t 19) (.c (.int .i64 (-30)))⟩, ⟨some 21, none, .mv (.t 20)⟩, ⟨some 22, some (21, false), .mv (.t 4)⟩, ⟨some 23, some (21, false), .bin .gtr (.t 22) (.c (.int .i64 30))⟩, ⟨some 24, none, .pick (.t 21) (.c (.bool true)) (.t 23)⟩]) (.cond (.t 24) (.seq (.reg [⟨some 2, none, .mv (.c (.bool false))⟩]) .ret) .skip)))) (.reg [⟨some 25, none, .bin .add (.t 15) (.c (.int .i64 1))⟩, ⟨some 15, none, .mv (.t 25)⟩]))))))) (.seq (.reg [⟨some 2, none, .mv (.c (.bool true))⟩]) .ret)))
theorem code_impl_validHeights : HasCode Try.prog fn_impl_validHeights mc_impl_validHeights [.t 2] 26 := ⟨mixed, Try.f15, _, Try.func15, rfl, by kernel_rfl, by kernel_rfl, rfl, by kernel_rfl, rfl⟩

def mc_impl_missedSquares : MC :=
  .seq (.reg [⟨some 2, none, .new [.int .i64 0, .int .i64 0]⟩]) (.seq (.reg [⟨some 3, none, .mv (.c (.int .i64 0))⟩, ⟨some 4, none, .mv (.c (.int .i64 0))⟩]) (.seq (.seq (.reg [⟨some 7, none, .mv (.t 0)⟩, ⟨some 8, none, .len (.t 7)⟩, ⟨some 9, none, .mv (.c (.int .i64 0))⟩]) (.block 0 (.loop (.seq (.reg [⟨some 10, none, .bin .lss (.t 9) (.t 8)⟩]) (.seq (.cond (.t 10) .skip (.exit 0)) (.seq (.block 1 (.seq (.reg [⟨some 11, none, .ixa (.t 7) (.t 9) 1⟩, ⟨some 12, none, .ld (.t 11) 1 false⟩, ⟨some 6, none, .mv (.t 12)⟩]) (.seq (.reg [⟨some 13, none, .mv (.t 3)⟩, ⟨some 14, none, .mv (.t 6)⟩, ⟨some 15, none, .bin .add (.t 13) (.t 14)⟩, ⟨some 3, none, .mv (.t 15)⟩]) (.reg [⟨some 16, none, .mv (.t 4)⟩, ⟨some 17, none, .mv (.t 6)⟩, ⟨some 18, none, .mv (.t 6)⟩, ⟨some 19, none, .bin .mul (.t 17) (.t 18)⟩, ⟨some 20, none, .bin .add (.t 16) (.t 19)⟩, ⟨some 4, none, .mv (.t 20)⟩])))) (.reg [⟨some 21, none, .bin .add (.t 9) (.c (.int .i64 1))⟩, ⟨some 9, none, .mv (.t 21)⟩]))))))) (.seq (.reg [⟨some 22, none, .mv (.t 0)⟩, ⟨some 23, none, .len (.t 22)⟩, ⟨some 24, none, .mv (.t 4)⟩, ⟨some 25, none, .bin .mul (.t 23) (.t 24)⟩, ⟨some 26, none, .mv (.t 3)⟩, ⟨some 27, none, .mv (.t 3)⟩, ⟨some 28, none, .bin .mul (.t 26) (.t 27)⟩, ⟨some 29, none, .bin .sub (.t 25) (.t 28)⟩, ⟨some 30, none, .mv (.t 0)⟩, ⟨some 31, none, .len (.t 30)⟩, ⟨some 32, none, .call fn_impl_lowest [.t 29, .t 31]⟩, ⟨none, none, .st (.t 2) (.t 32) 2⟩]) .ret)))
theorem code_impl_missedSquares : HasCode Try.prog fn_impl_missedSquares mc_impl_missedSquares [.c 2 2 true] 33 := ⟨mixed, Try.f16, _, Try.func16, rfl, by kernel_rfl, by kernel_rfl, rfl, by kernel_rfl, rfl⟩

def mc_spec_frac : MC :=
  .seq (.reg [⟨some 4, none, .new [.int .i64 0, .int .i64 0]⟩]) (.seq (.seq (.reg [⟨some 6, none, .mv (.t 1)⟩, ⟨some 7, none, .bin .lss (.t 6) (.c (.int .i64 0))⟩]) (.cond (.t 7) (.seq (.reg [⟨some 8, none, .mv (.t 0)⟩, ⟨some 9, none, .un .neg (.t 8)⟩, ⟨some 0, none, .mv (.t 9)⟩]) (.reg [⟨some 10, none, .mv (.t 1)⟩, ⟨some 11, none, .un .neg (.t 10)⟩, ⟨some 1, none, .mv (.t 11)⟩])) .skip)) (.seq (.reg [⟨some 12, none, .mv (.t 0)⟩, ⟨some 13, none, .mv (.t 1)⟩, ⟨some 14, none, .call fn_spec_gcd [.t 12, .t 13]⟩, ⟨some 5, none, .mv (.t 14)⟩]) (.seq (.drw [⟨some 15, none, .mv (.t 0)⟩, ⟨some 16, none, .mv (.t 5)⟩, ⟨some 17, none, .bin .quo (.t 15) (.t 16)⟩, ⟨some 18, none, .mv (.t 1)⟩, ⟨some 19, none, .mv (.t 5)⟩, ⟨some 20, none, .bin .quo (.t 18) (.t 19)⟩, ⟨some 21, none, .bld [.int .i64 0, .int .i64 0] [(0, 1, .t 17), (1, 1, .t 20)]⟩, ⟨none, none, .st (.t 4) (.t 21) 2⟩] []) .ret)))
theorem code_spec_frac : HasCode Try.prog fn_spec_frac mc_spec_frac [.c 4 2 true] 22 := ⟨mixed, Try.f21, _, Try.func21, rfl, by kernel_rfl, by kernel_rfl, rfl, by kernel_rfl, rfl⟩

def mc_impl_lowest : MC :=
  .seq (.reg [⟨some 4, none, .new [.int .i64 0, .int .i64 0]⟩]) (.seq (.reg [⟨some 6, none, .mv (.t 0)⟩, ⟨some 7, none, .mv (.t 1)⟩, ⟨some 8, none, .call fn_impl_commonFactor [.t 6, .t 7]⟩, ⟨some 5, none, .mv (.t 8)⟩]) (.seq (.seq (.reg [⟨some 9, none, .mv (.t 1)⟩, ⟨some 10, none, .bin .lss (.t 9) (.c (.int .i64 0))⟩]) (.cond (.t 10) (.reg [⟨some 11, none, .mv (.t 5)⟩, ⟨some 12, none, .un .neg (.t 11)⟩, ⟨some 5, none, .mv (.t 12)⟩]) .skip)) (.seq (.drw [⟨some 13, none, .mv (.t 0)⟩, ⟨some 14, none, .mv (.t 5)⟩, ⟨some 15, none, .bin .quo (.t 13) (.t 14)⟩, ⟨some 16, none, .mv (.t 1)⟩, ⟨some 17, none, .mv (.t 5)⟩, ⟨some 18, none, .bin .quo (.t 16) (.t 17)⟩, ⟨some 19, none, .bld [.int .i64 0, .int .i64 0] [(0, 1, .t 15), (1, 1, .t 18)]⟩, ⟨none, none, .st (.t 4) (.t 19) 2⟩] []) .ret)))
theorem code_impl_lowest : HasCode Try.prog fn_impl_lowest mc_impl_lowest [.c 4 2 true] 20 := ⟨mixed, Try.f22, _, Try.func22, rfl, by kernel_rfl, by kernel_rfl, rfl, by kernel_rfl, rfl⟩

def mc_spec_gcd : MC :=
  .seq (.reg [⟨some 4, none, .mv (.c (.int .i64 0))⟩]) (.seq (.block 0 (.loop (.seq (.seq (.reg [⟨some 6, none, .mv (.t 1)⟩, ⟨some 7, none, .bin .neq (.t 6) (.c (.int .i64 0))⟩]) (.cond (.t 7) .skip (.exit 0))) (.block 1 (.seq (.reg [⟨some 8, none, .mv (.t 0)⟩, ⟨some 9, none, .mv (.t 1)⟩, ⟨some 10, none, .bin .rem (.t 8) (.t 9)⟩, ⟨some 5, none, .mv (.t 10)⟩]) (.seq (.reg [⟨some 11, none, .mv (.t 1)⟩, ⟨some 0, none, .mv (.t 11)⟩]) (.reg [⟨some 12, none, .mv (.t 5)⟩, ⟨some 1, none, .mv (.t 12)⟩]))))))) (.seq (.reg [⟨some 13, none, .mv (.t 0)⟩, ⟨some 14, none, .mv (.t 0)⟩, ⟨some 15, none, .un .neg (.t 14)⟩, ⟨some 16, none, .mnmx true (.t 13) [.t 15]⟩, ⟨some 4, none, .mv (.t 16)⟩]) .ret))
theorem code_spec_gcd : HasCode Try.prog fn_spec_gcd mc_spec_gcd [.t 4] 17 := ⟨mixed, Try.f23, _, Try.func23, rfl, by kernel_rfl, by kernel_rfl, rfl, by kernel_rfl, rfl⟩

def mc_impl_commonFactor : MC :=
  .seq (.reg [⟨some 4, none, .mv (.c (.int .i64 0))⟩]) (.seq (.block 0 (.loop (.seq (.seq (.reg [⟨some 5, none, .mv (.t 1)⟩, ⟨some 6, none, .bin .neq (.t 5) (.c (.int .i64 0))⟩]) (.cond (.t 6) .skip (.exit 0))) (.block 1 (.drq [⟨some 7, none, .mv (.t 1)⟩, ⟨some 8, none, .mv (.t 0)⟩, ⟨some 9, none, .mv (.t 1)⟩, ⟨some 10, none, .bin .rem (.t 8) (.t 9)⟩, ⟨some 0, none, .mv (.t 7)⟩, ⟨some 1, none, .mv (.t 10)⟩]))))) (.seq (.reg [⟨some 11, none, .mv (.t 0)⟩, ⟨some 12, none, .call fn_impl_apart [.t 11, .c (.int .i64 0)]⟩, ⟨some 4, none, .mv (.t 12)⟩]) .ret))
theorem code_impl_commonFactor : HasCode Try.prog fn_impl_commonFactor mc_impl_commonFactor [.t 4] 13 := ⟨mixed, Try.f24, _, Try.func24, rfl, by kernel_rfl, by kernel_rfl, rfl, by kernel_rfl, rfl⟩

def mc_impl_apart : MC :=
  .seq (.reg [⟨some 4, none, .mv (.c (.int .i64 0))⟩]) (.seq (.reg [⟨some 5, none, .mv (.t 0)⟩, ⟨some 6, none, .mv (.t 1)⟩, ⟨some 7, none, .bin .sub (.t 5) (.t 6)⟩, ⟨some 8, none, .mv (.t 1)⟩, ⟨some 9, none, .mv (.t 0)⟩, ⟨some 10, none, .bin .sub (.t 8) (.t 9)⟩, ⟨some 11, none, .mnmx true (.t 7) [.t 10]⟩, ⟨some 4, none, .mv (.t 11)⟩]) .ret)
theorem code_impl_apart : HasCode Try.prog fn_impl_apart mc_impl_apart [.t 4] 12 := ⟨mixed, Try.f25, _, Try.func25, rfl, by kernel_rfl, by kernel_rfl, rfl, by kernel_rfl, rfl⟩

end Go.Rx.Try
