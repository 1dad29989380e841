/-
  The code of each function of the program, taken up. Made by a program.
-/
import Derived.Test.YtpibmmkghedmaacProg
import Derived.Test.YtpibmmkghedmaacRxI
import Derived.KernelRfl
namespace Go.Rx.Try
open Go.Proofs
set_option maxRecDepth 100000

abbrev fn_laws_FnPathsWithin : FuncId := 3
abbrev fn_laws_FnExactPathsWithin : FuncId := 4
abbrev fn_spec_DrawPathsWithin : FuncId := 5
abbrev fn_impl_PathsWithin : FuncId := 6
abbrev fn_spec_PathsWithin : FuncId := 7
abbrev fn_laws_choose : FuncId := 8
abbrev fn_spec_newReader : FuncId := 9
abbrev fn_spec_reader_one : FuncId := 10
abbrev fn_spec_reader_pick : FuncId := 11
abbrev fn_impl_apart : FuncId := 12
abbrev fn_spec_inRange : FuncId := 13
abbrev fn_spec_pathsFrom : FuncId := 14
abbrev fn_runtime_boundsError_Error : FuncId := 15
abbrev fn_runtime_boundsError_RuntimeError : FuncId := 16
abbrev fn_runtime_errorString_Error : FuncId := 17
abbrev fn_runtime_errorString_RuntimeError : FuncId := 18
abbrev fn_runtime_plainError_Error : FuncId := 19
abbrev fn_runtime_plainError_RuntimeError : FuncId := 20
abbrev fn_runtime_errorAddressString_Error : FuncId := 21
abbrev fn_runtime_errorAddressString_RuntimeError : FuncId := 22
abbrev fn_runtime_TypeAssertionError_Error : FuncId := 23
abbrev fn_runtime_TypeAssertionError_RuntimeError : FuncId := 24
abbrev fn_runtime_PanicNilError_Error : FuncId := 25
abbrev fn_runtime_PanicNilError_RuntimeError : FuncId := 26
abbrev fn_internal_abi_Type_Align : FuncId := 27
abbrev fn_internal_runtime_maps_unhashableTypeError_Error : FuncId := 28
abbrev fn_internal_runtime_maps_unhashableTypeError_RuntimeError : FuncId := 29
abbrev fn_internal_abi_Kind_String : FuncId := 30
abbrev ty_abi_BoundsErrorCode : TypeId := 6
abbrev ty_maps_unhashableTypeError : TypeId := 19
abbrev ty_spec_reader : TypeId := 37
abbrev ty_abi_TFlag : TypeId := 46
abbrev ty_abi_Kind : TypeId := 47
abbrev ty_abi_NameOff : TypeId := 50
abbrev ty_abi_TypeOff : TypeId := 51
abbrev ty_abi_Type : TypeId := 53
theorem mixed : Try.prog.follows .mixedOrders = true := by kernel_rfl

def mc_laws_FnExactPathsWithin : MC :=
  .seq (.reg [⟨some 6, none, .mv (.c (.bool false))⟩]) (.seq (.reg [⟨some 9, none, .mv (.t 0)⟩, ⟨some 10, none, .mv (.t 1)⟩, ⟨some 11, none, .mv (.t 2)⟩, ⟨some 12, none, .call fn_spec_PathsWithin [.t 9, .t 10, .t 11]⟩, ⟨some 7, none, .mv (.t 12)⟩]) (.seq (.reg [⟨some 13, none, .mv (.t 0)⟩, ⟨some 14, none, .mv (.t 1)⟩, ⟨some 15, none, .mv (.t 2)⟩, ⟨some 16, none, .call fn_impl_PathsWithin [.t 13, .t 14, .t 15]⟩, ⟨some 8, none, .mv (.t 16)⟩]) (.seq (.seq (.reg [⟨some 17, none, .mv (.t 8)⟩, ⟨some 18, none, .mv (.t 7)⟩, ⟨some 19, none, .bin .neq (.t 17) (.t 18)⟩]) (.cond (.t 19) (.seq (.reg [⟨some 6, none, .mv (.c (.bool false))⟩]) .ret) .skip)) (.seq (.reg [⟨some 6, none, .mv (.c (.bool true))⟩]) .ret))))
theorem code_laws_FnExactPathsWithin : HasCode Try.prog fn_laws_FnExactPathsWithin mc_laws_FnExactPathsWithin [.t 6] 20 := ⟨mixed, Try.f4, _, Try.func4, rfl, by kernel_rfl, by kernel_rfl, rfl, by kernel_rfl⟩

def mc_impl_PathsWithin : MC :=
  .seq (.reg [⟨some 6, none, .mv (.c (.int .i64 0))⟩]) (.seq (.seq (.reg [⟨some 10, none, .mv (.t 0)⟩, ⟨some 11, none, .mv (.t 1)⟩, ⟨some 12, none, .mnmx false (.t 10) [.t 11]⟩, ⟨some 13, none, .bin .lss (.t 12) (.c (.int .i64 1))⟩, ⟨some 14, none, .mv (.t 13)⟩, ⟨some 15, some (14, false), .mv (.t 0)⟩, ⟨some 16, some (14, false), .mv (.t 1)⟩, ⟨some 17, some (14, false), .mnmx true (.t 15) [.t 16]⟩, ⟨some 18, some (14, false), .bin .gtr (.t 17) (.c (.int .i64 6))⟩, ⟨some 19, none, .pick (.t 14) (.c (.bool true)) (.t 18)⟩, ⟨some 20, none, .mv (.t 19)⟩, ⟨some 21, some (20, false), .mv (.t 2)⟩, ⟨some 22, some (20, false), .bin .lss (.t 21) (.c (.int .i64 0))⟩, ⟨some 23, none, .pick (.t 20) (.c (.bool true)) (.t 22)⟩]) (.cond (.t 23) (.seq (.reg [⟨some 6, none, .mv (.c (.int .i64 (-1)))⟩]) .ret) .skip)) (.seq (.reg [⟨some 7, none, .new [.int .i64 0, .int .i64 0, .int .i64 0, .int .i64 0, .int .i64 0, .int .i64 0, .int .i64 0]⟩]) (.seq (.reg [⟨some 24, none, .arra (.t 7) (.c (.int .i64 0)) 7 1⟩, ⟨none, none, .st (.t 24) (.c (.int .i64 1)) 1⟩]) (.seq (.seq (.reg [⟨some 25, none, .mv (.t 0)⟩, ⟨some 26, none, .bin .add (.t 25) (.c (.int .i64 1))⟩, ⟨some 27, none, .mv (.c (.int .i64 0))⟩]) (.block 0 (.loop (.seq (.reg [⟨some 28, none, .bin .lss (.t 27) (.t 26)⟩]) (.seq (.cond (.t 28) .skip (.exit 0)) (.seq (.block 1 (.seq (.reg [⟨some 29, none, .mv (.t 27)⟩, ⟨some 8, none, .mv (.t 29)⟩]) (.seq (.reg [⟨some 30, none, .mv (.t 1)⟩, ⟨some 31, none, .bin .add (.t 30) (.c (.int .i64 1))⟩, ⟨some 32, none, .mv (.c (.int .i64 0))⟩]) (.block 2 (.loop (.seq (.reg [⟨some 33, none, .bin .lss (.t 32) (.t 31)⟩]) (.seq (.cond (.t 33) .skip (.exit 2)) (.seq (.block 3 (.seq (.reg [⟨some 34, none, .mv (.t 32)⟩, ⟨some 9, none, .mv (.t 34)⟩]) (.seq (.seq (.reg [⟨some 35, none, .mv (.t 9)⟩, ⟨some 36, none, .bin .gtr (.t 35) (.c (.int .i64 0))⟩]) (.cond (.t 36) (.drw [⟨some 37, none, .mv (.t 9)⟩, ⟨some 38, none, .arra (.t 7) (.t 37) 7 1⟩, ⟨some 39, none, .ld (.t 38) 1 false⟩, ⟨some 40, none, .mv (.t 9)⟩, ⟨some 41, none, .bin .sub (.t 40) (.c (.int .i64 1))⟩, ⟨some 42, none, .arra (.t 7) (.t 41) 7 1⟩, ⟨some 43, none, .ld (.t 42) 1 false⟩, ⟨some 44, none, .bin .add (.t 39) (.t 43)⟩, ⟨some 45, none, .arra (.t 7) (.t 37) 7 1⟩, ⟨none, none, .st (.t 45) (.t 44) 1⟩] []) .skip)) (.seq (.reg [⟨some 46, none, .mv (.t 8)⟩, ⟨some 47, none, .mv (.t 1)⟩, ⟨some 48, none, .bin .mul (.t 46) (.t 47)⟩, ⟨some 49, none, .mv (.t 9)⟩, ⟨some 50, none, .mv (.t 0)⟩, ⟨some 51, none, .bin .mul (.t 49) (.t 50)⟩, ⟨some 52, none, .call fn_impl_apart [.t 48, .t 51]⟩, ⟨some 53, none, .mv (.t 2)⟩, ⟨some 54, none, .bin .gtr (.t 52) (.t 53)⟩]) (.cond (.t 54) (.reg [⟨some 55, none, .mv (.t 9)⟩, ⟨some 56, none, .arra (.t 7) (.t 55) 7 1⟩, ⟨none, none, .st (.t 56) (.c (.int .i64 0)) 1⟩]) .skip))))) (.reg [⟨some 57, none, .bin .add (.t 32) (.c (.int .i64 1))⟩, ⟨some 32, none, .mv (.t 57)⟩]))))))))) (.reg [⟨some 58, none, .bin .add (.t 27) (.c (.int .i64 1))⟩, ⟨some 27, none, .mv (.t 58)⟩]))))))) (.seq (.reg [⟨some 59, none, .mv (.t 1)⟩, ⟨some 60, none, .arra (.t 7) (.t 59) 7 1⟩, ⟨some 61, none, .ld (.t 60) 1 false⟩, ⟨some 6, none, .mv (.t 61)⟩]) .ret)))))
theorem code_impl_PathsWithin : HasCode Try.prog fn_impl_PathsWithin mc_impl_PathsWithin [.t 6] 62 := ⟨mixed, Try.f6, _, Try.func6, rfl, by kernel_rfl, by kernel_rfl, rfl, by kernel_rfl⟩

def mc_spec_PathsWithin : MC :=
  .seq (.reg [⟨some 6, none, .mv (.c (.int .i64 0))⟩]) (.seq (.seq (.reg [⟨some 7, none, .mv (.t 0)⟩, ⟨some 8, none, .call fn_spec_inRange [.t 7, .c (.int .i64 1), .c (.int .i64 6)]⟩, ⟨some 9, none, .un .not (.t 8)⟩, ⟨some 10, none, .mv (.t 9)⟩, ⟨some 11, some (10, false), .mv (.t 1)⟩, ⟨some 12, some (10, false), .call fn_spec_inRange [.t 11, .c (.int .i64 1), .c (.int .i64 6)]⟩, ⟨some 13, some (10, false), .un .not (.t 12)⟩, ⟨some 14, none, .pick (.t 10) (.c (.bool true)) (.t 13)⟩, ⟨some 15, none, .mv (.t 14)⟩, ⟨some 16, some (15, false), .mv (.t 2)⟩, ⟨some 17, some (15, false), .bin .lss (.t 16) (.c (.int .i64 0))⟩, ⟨some 18, none, .pick (.t 15) (.c (.bool true)) (.t 17)⟩]) (.cond (.t 18) (.seq (.reg [⟨some 6, none, .mv (.c (.int .i64 (-1)))⟩]) .ret) .skip)) (.seq (.reg [⟨some 19, none, .mv (.t 0)⟩, ⟨some 20, none, .mv (.t 1)⟩, ⟨some 21, none, .mv (.t 2)⟩, ⟨some 22, none, .call fn_spec_pathsFrom [.t 19, .t 20, .c (.int .i64 0), .c (.int .i64 0), .t 21]⟩, ⟨some 6, none, .mv (.t 22)⟩]) .ret))
theorem code_spec_PathsWithin : HasCode Try.prog fn_spec_PathsWithin mc_spec_PathsWithin [.t 6] 23 := ⟨mixed, Try.f7, _, Try.func7, rfl, by kernel_rfl, by kernel_rfl, rfl, by kernel_rfl⟩

def mc_impl_apart : MC :=
  .seq (.reg [⟨some 4, none, .mv (.c (.int .i64 0))⟩]) (.seq (.reg [⟨some 5, none, .mv (.t 0)⟩, ⟨some 6, none, .mv (.t 1)⟩, ⟨some 7, none, .bin .sub (.t 5) (.t 6)⟩, ⟨some 8, none, .mv (.t 1)⟩, ⟨some 9, none, .mv (.t 0)⟩, ⟨some 10, none, .bin .sub (.t 8) (.t 9)⟩, ⟨some 11, none, .mnmx true (.t 7) [.t 10]⟩, ⟨some 4, none, .mv (.t 11)⟩]) .ret)
theorem code_impl_apart : HasCode Try.prog fn_impl_apart mc_impl_apart [.t 4] 12 := ⟨mixed, Try.f12, _, Try.func12, rfl, by kernel_rfl, by kernel_rfl, rfl, by kernel_rfl⟩

def mc_spec_inRange : MC :=
  .seq (.reg [⟨some 6, none, .mv (.c (.bool false))⟩]) (.seq (.reg [⟨some 7, none, .mv (.t 1)⟩, ⟨some 8, none, .mv (.t 0)⟩, ⟨some 9, none, .bin .leq (.t 7) (.t 8)⟩, ⟨some 10, none, .mv (.t 9)⟩, ⟨some 11, some (10, true), .mv (.t 0)⟩, ⟨some 12, some (10, true), .mv (.t 2)⟩, ⟨some 13, some (10, true), .bin .leq (.t 11) (.t 12)⟩, ⟨some 14, none, .pick (.t 10) (.t 13) (.c (.bool false))⟩, ⟨some 6, none, .mv (.t 14)⟩]) .ret)
theorem code_spec_inRange : HasCode Try.prog fn_spec_inRange mc_spec_inRange [.t 6] 15 := ⟨mixed, Try.f13, _, Try.func13, rfl, by kernel_rfl, by kernel_rfl, rfl, by kernel_rfl⟩

def mc_spec_pathsFrom : MC :=
  .seq (.reg [⟨some 10, none, .mv (.c (.int .i64 0))⟩]) (.seq (.reg [⟨some 12, none, .mv (.t 2)⟩, ⟨some 13, none, .mv (.t 1)⟩, ⟨some 14, none, .bin .mul (.t 12) (.t 13)⟩, ⟨some 15, none, .mv (.t 3)⟩, ⟨some 16, none, .mv (.t 0)⟩, ⟨some 17, none, .bin .mul (.t 15) (.t 16)⟩, ⟨some 18, none, .bin .sub (.t 14) (.t 17)⟩, ⟨some 11, none, .mv (.t 18)⟩]) (.seq (.seq (.reg [⟨some 19, none, .mv (.t 2)⟩, ⟨some 20, none, .mv (.t 0)⟩, ⟨some 21, none, .bin .gtr (.t 19) (.t 20)⟩, ⟨some 22, none, .mv (.t 21)⟩, ⟨some 23, some (22, false), .mv (.t 3)⟩, ⟨some 24, some (22, false), .mv (.t 1)⟩, ⟨some 25, some (22, false), .bin .gtr (.t 23) (.t 24)⟩, ⟨some 26, none, .pick (.t 22) (.c (.bool true)) (.t 25)⟩, ⟨some 27, none, .mv (.t 26)⟩, ⟨some 28, some (27, false), .mv (.t 11)⟩, ⟨some 29, some (27, false), .mv (.t 4)⟩, ⟨some 30, some (27, false), .bin .gtr (.t 28) (.t 29)⟩, ⟨some 31, none, .pick (.t 27) (.c (.bool true)) (.t 30)⟩, ⟨some 32, none, .mv (.t 31)⟩, ⟨some 33, some (32, false), .mv (.t 11)⟩, ⟨some 34, some (32, false), .mv (.t 4)⟩, ⟨some 35, some (32, false), .un .neg (.t 34)⟩, ⟨some 36, some (32, false), .bin .lss (.t 33) (.t 35)⟩, ⟨some 37, none, .pick (.t 32) (.c (.bool true)) (.t 36)⟩]) (.cond (.t 37) (.seq (.reg [⟨some 10, none, .mv (.c (.int .i64 0))⟩]) .ret) .skip)) (.seq (.seq (.reg [⟨some 38, none, .mv (.t 2)⟩, ⟨some 39, none, .mv (.t 0)⟩, ⟨some 40, none, .bin .eql (.t 38) (.t 39)⟩, ⟨some 41, none, .mv (.t 40)⟩, ⟨some 42, some (41, true), .mv (.t 3)⟩, ⟨some 43, some (41, true), .mv (.t 1)⟩, ⟨some 44, some (41, true), .bin .eql (.t 42) (.t 43)⟩, ⟨some 45, none, .pick (.t 41) (.t 44) (.c (.bool false))⟩]) (.cond (.t 45) (.seq (.reg [⟨some 10, none, .mv (.c (.int .i64 1))⟩]) .ret) .skip)) (.seq (.reg [⟨some 46, none, .mv (.t 0)⟩, ⟨some 47, none, .mv (.t 1)⟩, ⟨some 48, none, .mv (.t 2)⟩, ⟨some 49, none, .bin .add (.t 48) (.c (.int .i64 1))⟩, ⟨some 50, none, .mv (.t 3)⟩, ⟨some 51, none, .mv (.t 4)⟩, ⟨some 52, none, .call fn_spec_pathsFrom [.t 46, .t 47, .t 49, .t 50, .t 51]⟩, ⟨some 53, none, .mv (.t 0)⟩, ⟨some 54, none, .mv (.t 1)⟩, ⟨some 55, none, .mv (.t 2)⟩, ⟨some 56, none, .mv (.t 3)⟩, ⟨some 57, none, .bin .add (.t 56) (.c (.int .i64 1))⟩, ⟨some 58, none, .mv (.t 4)⟩, ⟨some 59, none, .call fn_spec_pathsFrom [.t 53, .t 54, .t 55, .t 57, .t 58]⟩, ⟨some 60, none, .bin .add (.t 52) (.t 59)⟩, ⟨some 10, none, .mv (.t 60)⟩]) .ret))))
theorem code_spec_pathsFrom : HasCode Try.prog fn_spec_pathsFrom mc_spec_pathsFrom [.t 10] 61 := ⟨mixed, Try.f14, _, Try.func14, rfl, by kernel_rfl, by kernel_rfl, rfl, by kernel_rfl⟩

end Go.Rx.Try
