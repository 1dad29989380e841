/-
  The code of each function of the program, taken up. Made by a program.
-/
import Derived.Test.YtibefcnnhbdcgaaProg
import Derived.Test.YtibefcnnhbdcgaaRxI
import Derived.KernelRfl
namespace Go.Rx.Try
open Go.Proofs
set_option maxRecDepth 100000

abbrev fn_laws_FnExactFracOf : FuncId := 3
abbrev fn_laws_FnFracOf : FuncId := 4
abbrev fn_spec_FracOf : FuncId := 5
abbrev fn_impl_FracOf : FuncId := 6
abbrev fn_laws_eqFrac : FuncId := 7
abbrev fn_spec_DrawFracOf : FuncId := 8
abbrev fn_laws_divisor : FuncId := 9
abbrev fn_spec_inRange : FuncId := 10
abbrev fn_spec_frac : FuncId := 11
abbrev fn_impl_lowest : FuncId := 12
abbrev fn_spec_newReader : FuncId := 13
abbrev fn_spec_reader_one : FuncId := 14
abbrev fn_spec_reader_pick : FuncId := 15
abbrev fn_spec_gcd : FuncId := 16
abbrev fn_impl_commonFactor : FuncId := 17
abbrev fn_impl_apart : FuncId := 18
abbrev fn_runtime_boundsError_Error : FuncId := 19
abbrev fn_runtime_boundsError_RuntimeError : FuncId := 20
abbrev fn_runtime_errorString_Error : FuncId := 21
abbrev fn_runtime_errorString_RuntimeError : FuncId := 22
abbrev fn_runtime_plainError_Error : FuncId := 23
abbrev fn_runtime_plainError_RuntimeError : FuncId := 24
abbrev fn_runtime_errorAddressString_Error : FuncId := 25
abbrev fn_runtime_errorAddressString_RuntimeError : FuncId := 26
abbrev fn_runtime_TypeAssertionError_Error : FuncId := 27
abbrev fn_runtime_TypeAssertionError_RuntimeError : FuncId := 28
abbrev fn_runtime_PanicNilError_Error : FuncId := 29
abbrev fn_runtime_PanicNilError_RuntimeError : FuncId := 30
abbrev fn_internal_abi_Type_Align : FuncId := 31
abbrev fn_internal_runtime_maps_unhashableTypeError_Error : FuncId := 32
abbrev fn_internal_runtime_maps_unhashableTypeError_RuntimeError : FuncId := 33
abbrev fn_impl_Frac_size : FuncId := 34
abbrev fn_internal_abi_Kind_String : FuncId := 35
abbrev ty_abi_BoundsErrorCode : TypeId := 6
abbrev ty_maps_unhashableTypeError : TypeId := 19
abbrev ty_impl_Frac : TypeId := 23
abbrev ty_spec_reader : TypeId := 41
abbrev ty_abi_TFlag : TypeId := 50
abbrev ty_abi_Kind : TypeId := 51
abbrev ty_abi_NameOff : TypeId := 54
abbrev ty_abi_TypeOff : TypeId := 55
abbrev ty_abi_Type : TypeId := 57
theorem mixed : Try.prog.follows .mixedOrders = true := by kernel_rfl

def mc_laws_FnFracOf : MC :=
  .seq (.reg [⟨some 2, none, .mv (.c (.bool false))⟩]) (.seq (.seq (.reg [⟨some 9, none, .mv (.t 0)⟩, ⟨some 10, none, .len (.t 9)⟩, ⟨some 11, none, .bin .gtr (.t 10) (.c (.int .i64 1048576))⟩]) (.cond (.t 11) (.seq (.reg [⟨some 2, none, .mv (.c (.bool true))⟩]) .ret) .skip)) (.seq (.reg [⟨some 13, none, .mv (.t 0)⟩, ⟨some 14, none, .call fn_spec_DrawFracOf [.t 13]⟩, ⟨some 12, none, .mv (.t 14)⟩, ⟨some 15, none, .ext (.t 12) 0⟩, ⟨some 16, none, .ext (.t 12) 1⟩, ⟨some 3, none, .mv (.t 15)⟩, ⟨some 4, none, .mv (.t 16)⟩]) (.seq (.reg [⟨some 18, none, .mv (.t 3)⟩, ⟨some 19, none, .mv (.t 4)⟩, ⟨some 20, none, .call fn_impl_FracOf [.t 18, .t 19]⟩, ⟨some 17, none, .mv (.t 20)⟩, ⟨some 21, none, .ext (.t 17) 0⟩, ⟨some 22, none, .ext (.t 17) 1⟩, ⟨some 5, none, .new [.int .i64 0, .int .i64 0]⟩, ⟨none, none, .st (.t 5) (.t 21) 2⟩, ⟨some 6, none, .mv (.t 22)⟩]) (.seq (.reg [⟨some 24, none, .mv (.t 3)⟩, ⟨some 25, none, .mv (.t 4)⟩, ⟨some 26, none, .call fn_spec_FracOf [.t 24, .t 25]⟩, ⟨some 23, none, .mv (.t 26)⟩, ⟨some 27, none, .ext (.t 23) 0⟩, ⟨some 28, none, .ext (.t 23) 1⟩, ⟨some 7, none, .new [.int .i64 0, .int .i64 0]⟩, ⟨none, none, .st (.t 7) (.t 27) 2⟩, ⟨some 8, none, .mv (.t 28)⟩]) (.seq (.seq (.reg [⟨some 29, none, .ld (.t 5) 2 true⟩, ⟨some 30, none, .ld (.t 7) 2 true⟩, ⟨some 31, none, .ageq true 2 (.t 29) (.t 30)⟩, ⟨some 32, none, .mv (.t 31)⟩, ⟨some 33, some (32, false), .mv (.t 6)⟩, ⟨some 34, some (32, false), .mv (.t 8)⟩, ⟨some 35, some (32, false), .beq true (.t 33) (.t 34)⟩, ⟨some 36, none, .pick (.t 32) (.c (.bool true)) (.t 35)⟩, ⟨some 37, none, .mv (.t 36)⟩, ⟨some 38, some (37, false), .mv (.t 6)⟩, ⟨some 39, some (37, false), .un .not (.t 38)⟩, ⟨some 40, none, .pick (.t 37) (.c (.bool true)) (.t 39)⟩]) (.cond (.t 40) (.seq (.reg [⟨some 41, none, .ld (.t 5) 2 true⟩, ⟨some 42, none, .ld (.t 7) 2 true⟩, ⟨some 43, none, .ageq false 2 (.t 41) (.t 42)⟩, ⟨some 44, none, .mv (.t 43)⟩, ⟨some 45, some (44, true), .mv (.t 6)⟩, ⟨some 46, some (44, true), .mv (.t 8)⟩, ⟨some 47, some (44, true), .beq false (.t 45) (.t 46)⟩, ⟨some 48, none, .pick (.t 44) (.t 47) (.c (.bool false))⟩, ⟨some 2, none, .mv (.t 48)⟩]) .ret) .skip)) (.seq (.reg [⟨some 49, none, .fa (.t 5) 0⟩, ⟨some 50, none, .ld (.t 49) 1 false⟩, ⟨some 51, none, .fa (.t 5) 1⟩, ⟨some 52, none, .ld (.t 51) 1 false⟩, ⟨some 53, none, .call fn_laws_divisor [.t 50, .t 52]⟩, ⟨some 54, none, .bin .eql (.t 53) (.c (.int .i64 1))⟩, ⟨some 55, none, .mv (.t 54)⟩, ⟨some 56, some (55, true), .fa (.t 5) 1⟩, ⟨some 57, some (55, true), .ld (.t 56) 1 false⟩, ⟨some 58, some (55, true), .bin .geq (.t 57) (.c (.int .i64 1))⟩, ⟨some 59, none, .pick (.t 55) (.t 58) (.c (.bool false))⟩, ⟨some 60, none, .mv (.t 59)⟩, ⟨some 61, some (60, true), .fa (.t 5) 0⟩, ⟨some 62, some (60, true), .ld (.t 61) 1 false⟩, ⟨some 63, some (60, true), .mv (.t 4)⟩, ⟨some 64, some (60, true), .bin .mul (.t 62) (.t 63)⟩, ⟨some 65, some (60, true), .mv (.t 3)⟩, ⟨some 66, some (60, true), .fa (.t 5) 1⟩, ⟨some 67, some (60, true), .ld (.t 66) 1 false⟩, ⟨some 68, some (60, true), .bin .mul (.t 65) (.t 67)⟩, ⟨some 69, some (60, true), .bin .eql (.t 64) (.t 68)⟩, ⟨some 70, none, .pick (.t 60) (.t 69) (.c (.bool false))⟩, ⟨some 2, none, .mv (.t 70)⟩]) .ret))))))
theorem code_laws_FnFracOf : HasCode Try.prog fn_laws_FnFracOf mc_laws_FnFracOf [.t 2] 71 := ⟨mixed, Try.f4, _, Try.func4, rfl, by kernel_rfl, by kernel_rfl, rfl, by kernel_rfl⟩

def mc_spec_FracOf : MC :=
  .seq (.reg [⟨some 4, none, .new [.int .i64 0, .int .i64 0]⟩, ⟨some 5, none, .mv (.c (.bool false))⟩]) (.seq (.seq (.reg [⟨some 6, none, .mv (.t 0)⟩, ⟨some 7, none, .call fn_spec_inRange [.t 6, .c (.int .i64 (-1000000)), .c (.int .i64 1000000)]⟩, ⟨some 8, none, .un .not (.t 7)⟩, ⟨some 9, none, .mv (.t 8)⟩, ⟨some 10, some (9, false), .mv (.t 1)⟩, ⟨some 11, some (9, false), .call fn_spec_inRange [.t 10, .c (.int .i64 (-1000000)), .c (.int .i64 1000000)]⟩, ⟨some 12, some (9, false), .un .not (.t 11)⟩, ⟨some 13, none, .pick (.t 9) (.c (.bool true)) (.t 12)⟩, ⟨some 14, none, .mv (.t 13)⟩, ⟨some 15, some (14, false), .mv (.t 1)⟩, ⟨some 16, some (14, false), .bin .eql (.t 15) (.c (.int .i64 0))⟩, ⟨some 17, none, .pick (.t 14) (.c (.bool true)) (.t 16)⟩]) (.cond (.t 17) (.seq (.reg [⟨some 18, none, .bld [.int .i64 0, .int .i64 0] []⟩, ⟨none, none, .st (.t 4) (.t 18) 2⟩, ⟨some 5, none, .mv (.c (.bool false))⟩]) .ret) .skip)) (.seq (.reg [⟨some 19, none, .mv (.t 0)⟩, ⟨some 20, none, .mv (.t 1)⟩, ⟨some 21, none, .call fn_spec_frac [.t 19, .t 20]⟩, ⟨none, none, .st (.t 4) (.t 21) 2⟩, ⟨some 5, none, .mv (.c (.bool true))⟩]) .ret))
theorem code_spec_FracOf : HasCode Try.prog fn_spec_FracOf mc_spec_FracOf [.c 4 2 true, .t 5] 22 := ⟨mixed, Try.f5, _, Try.func5, rfl, by kernel_rfl, by kernel_rfl, rfl, by kernel_rfl⟩

def mc_impl_FracOf : MC :=
  .seq (.reg [⟨some 4, none, .new [.int .i64 0, .int .i64 0]⟩, ⟨some 5, none, .mv (.c (.bool false))⟩]) (.seq (.seq (.reg [⟨some 6, none, .mv (.t 0)⟩, ⟨some 7, none, .mv (.t 1)⟩, ⟨some 8, none, .mnmx false (.t 6) [.t 7]⟩, ⟨some 9, none, .bin .lss (.t 8) (.c (.int .i64 (-1000000)))⟩, ⟨some 10, none, .mv (.t 9)⟩, ⟨some 11, some (10, false), .mv (.t 0)⟩, ⟨some 12, some (10, false), .mv (.t 1)⟩, ⟨some 13, some (10, false), .mnmx true (.t 11) [.t 12]⟩, ⟨some 14, some (10, false), .bin .gtr (.t 13) (.c (.int .i64 1000000))⟩, ⟨some 15, none, .pick (.t 10) (.c (.bool true)) (.t 14)⟩, ⟨some 16, none, .mv (.t 15)⟩, ⟨some 17, some (16, false), .mv (.t 1)⟩, ⟨some 18, some (16, false), .bin .eql (.t 17) (.c (.int .i64 0))⟩, ⟨some 19, none, .pick (.t 16) (.c (.bool true)) (.t 18)⟩]) (.cond (.t 19) (.seq (.reg [⟨some 20, none, .bld [.int .i64 0, .int .i64 0] []⟩, ⟨none, none, .st (.t 4) (.t 20) 2⟩, ⟨some 5, none, .mv (.c (.bool false))⟩]) .ret) .skip)) (.seq (.reg [⟨some 21, none, .mv (.t 0)⟩, ⟨some 22, none, .mv (.t 1)⟩, ⟨some 23, none, .call fn_impl_lowest [.t 21, .t 22]⟩, ⟨none, none, .st (.t 4) (.t 23) 2⟩, ⟨some 5, none, .mv (.c (.bool true))⟩]) .ret))
theorem code_impl_FracOf : HasCode Try.prog fn_impl_FracOf mc_impl_FracOf [.c 4 2 true, .t 5] 24 := ⟨mixed, Try.f6, _, Try.func6, rfl, by kernel_rfl, by kernel_rfl, rfl, by kernel_rfl⟩

def mc_spec_DrawFracOf : MC :=
  .seq (.reg [⟨some 2, none, .mv (.c (.int .i64 0))⟩, ⟨some 3, none, .mv (.c (.int .i64 0))⟩]) (.seq (.reg [⟨some 5, none, .mv (.t 0)⟩, ⟨some 6, none, .call fn_spec_newReader [.t 5]⟩, ⟨some 4, none, .mv (.t 6)⟩]) (.seq (.reg [⟨some 7, none, .mv (.t 4)⟩, ⟨some 8, none, .mv (.t 4)⟩, ⟨some 9, none, .call fn_spec_reader_pick [.t 8, .c (.int .i64 256)]⟩, ⟨some 10, none, .bin .mul (.t 9) (.c (.int .i64 6))⟩, ⟨some 11, none, .mv (.t 4)⟩, ⟨some 12, none, .call fn_spec_reader_pick [.t 11, .c (.int .i64 256)]⟩, ⟨some 13, none, .un .neg (.t 12)⟩, ⟨some 14, none, .bin .mul (.t 13) (.c (.int .i64 10))⟩, ⟨some 15, none, .mv (.t 4)⟩, ⟨some 16, none, .call fn_spec_reader_pick [.t 15, .c (.int .i64 256)]⟩, ⟨some 17, none, .bsl 6 1 [.int .i64 0] [(0, .t 10), (1, .t 14), (2, .t 16), (3, .c (.int .i64 0)), (4, .c (.int .i64 1000000)), (5, .c (.int .i64 1000001))]⟩, ⟨some 18, none, .call fn_spec_reader_one [.t 7, .t 17]⟩, ⟨some 19, none, .mv (.t 4)⟩, ⟨some 20, none, .mv (.t 4)⟩, ⟨some 21, none, .call fn_spec_reader_pick [.t 20, .c (.int .i64 60)]⟩, ⟨some 22, none, .bin .add (.c (.int .i64 1)) (.t 21)⟩, ⟨some 23, none, .mv (.t 4)⟩, ⟨some 24, none, .call fn_spec_reader_pick [.t 23, .c (.int .i64 60)]⟩, ⟨some 25, none, .bin .sub (.c (.int .i64 (-1))) (.t 24)⟩, ⟨some 26, none, .bsl 6 1 [.int .i64 0] [(0, .t 22), (1, .t 25), (2, .c (.int .i64 1)), (3, .c (.int .i64 0)), (4, .c (.int .i64 1000000)), (5, .c (.int .i64 (-1000001)))]⟩, ⟨some 27, none, .call fn_spec_reader_one [.t 19, .t 26]⟩, ⟨some 2, none, .mv (.t 18)⟩, ⟨some 3, none, .mv (.t 27)⟩]) .ret))
theorem code_spec_DrawFracOf : HasCode Try.prog fn_spec_DrawFracOf mc_spec_DrawFracOf [.t 2, .t 3] 28 := ⟨mixed, Try.f8, _, Try.func8, rfl, by kernel_rfl, by kernel_rfl, rfl, by kernel_rfl⟩

def mc_laws_divisor : MC :=
  .seq (.reg [⟨some 4, none, .mv (.c (.int .i64 0))⟩]) (.seq (.block 0 (.loop (.seq (.seq (.reg [⟨some 6, none, .mv (.t 1)⟩, ⟨some 7, none, .bin .neq (.t 6) (.c (.int .i64 0))⟩]) (.cond (.t 7) .skip (.exit 0))) (.block 1 (.seq (.reg [⟨some 8, none, .mv (.t 0)⟩, ⟨some 9, none, .mv (.t 1)⟩, ⟨some 10, none, .bin .rem (.t 8) (.t 9)⟩, ⟨some 5, none, .mv (.t 10)⟩]) (.seq (.reg [⟨some 11, none, .mv (.t 1)⟩, ⟨some 0, none, .mv (.t 11)⟩]) (.reg [⟨some 12, none, .mv (.t 5)⟩, ⟨some 1, none, .mv (.t 12)⟩]))))))) (.seq (.reg [⟨some 13, none, .mv (.t 0)⟩, ⟨some 14, none, .mv (.t 0)⟩, ⟨some 15, none, .un .neg (.t 14)⟩, ⟨some 16, none, .mnmx true (.t 13) [.t 15]⟩, ⟨some 4, none, .mv (.t 16)⟩]) .ret))
theorem code_laws_divisor : HasCode Try.prog fn_laws_divisor mc_laws_divisor [.t 4] 17 := ⟨mixed, Try.f9, _, Try.func9, rfl, by kernel_rfl, by kernel_rfl, rfl, by kernel_rfl⟩

def mc_spec_inRange : MC :=
  .seq (.reg [⟨some 6, none, .mv (.c (.bool false))⟩]) (.seq (.reg [⟨some 7, none, .mv (.t 1)⟩, ⟨some 8, none, .mv (.t 0)⟩, ⟨some 9, none, .bin .leq (.t 7) (.t 8)⟩, ⟨some 10, none, .mv (.t 9)⟩, ⟨some 11, some (10, true), .mv (.t 0)⟩, ⟨some 12, some (10, true), .mv (.t 2)⟩, ⟨some 13, some (10, true), .bin .leq (.t 11) (.t 12)⟩, ⟨some 14, none, .pick (.t 10) (.t 13) (.c (.bool false))⟩, ⟨some 6, none, .mv (.t 14)⟩]) .ret)
theorem code_spec_inRange : HasCode Try.prog fn_spec_inRange mc_spec_inRange [.t 6] 15 := ⟨mixed, Try.f10, _, Try.func10, rfl, by kernel_rfl, by kernel_rfl, rfl, by kernel_rfl⟩

def mc_spec_frac : MC :=
  .seq (.reg [⟨some 4, none, .new [.int .i64 0, .int .i64 0]⟩]) (.seq (.seq (.reg [⟨some 6, none, .mv (.t 1)⟩, ⟨some 7, none, .bin .lss (.t 6) (.c (.int .i64 0))⟩]) (.cond (.t 7) (.seq (.reg [⟨some 8, none, .mv (.t 0)⟩, ⟨some 9, none, .un .neg (.t 8)⟩, ⟨some 0, none, .mv (.t 9)⟩]) (.reg [⟨some 10, none, .mv (.t 1)⟩, ⟨some 11, none, .un .neg (.t 10)⟩, ⟨some 1, none, .mv (.t 11)⟩])) .skip)) (.seq (.reg [⟨some 12, none, .mv (.t 0)⟩, ⟨some 13, none, .mv (.t 1)⟩, ⟨some 14, none, .call fn_spec_gcd [.t 12, .t 13]⟩, ⟨some 5, none, .mv (.t 14)⟩]) (.seq (.drw [⟨some 15, none, .mv (.t 0)⟩, ⟨some 16, none, .mv (.t 5)⟩, ⟨some 17, none, .bin .quo (.t 15) (.t 16)⟩, ⟨some 18, none, .mv (.t 1)⟩, ⟨some 19, none, .mv (.t 5)⟩, ⟨some 20, none, .bin .quo (.t 18) (.t 19)⟩, ⟨some 21, none, .bld [.int .i64 0, .int .i64 0] [(0, 1, .t 17), (1, 1, .t 20)]⟩, ⟨none, none, .st (.t 4) (.t 21) 2⟩] []) .ret)))
theorem code_spec_frac : HasCode Try.prog fn_spec_frac mc_spec_frac [.c 4 2 true] 22 := ⟨mixed, Try.f11, _, Try.func11, rfl, by kernel_rfl, by kernel_rfl, rfl, by kernel_rfl⟩

def mc_impl_lowest : MC :=
  .seq (.reg [⟨some 4, none, .new [.int .i64 0, .int .i64 0]⟩]) (.seq (.reg [⟨some 6, none, .mv (.t 0)⟩, ⟨some 7, none, .mv (.t 1)⟩, ⟨some 8, none, .call fn_impl_commonFactor [.t 6, .t 7]⟩, ⟨some 5, none, .mv (.t 8)⟩]) (.seq (.seq (.reg [⟨some 9, none, .mv (.t 1)⟩, ⟨some 10, none, .bin .lss (.t 9) (.c (.int .i64 0))⟩]) (.cond (.t 10) (.reg [⟨some 11, none, .mv (.t 5)⟩, ⟨some 12, none, .un .neg (.t 11)⟩, ⟨some 5, none, .mv (.t 12)⟩]) .skip)) (.seq (.drw [⟨some 13, none, .mv (.t 0)⟩, ⟨some 14, none, .mv (.t 5)⟩, ⟨some 15, none, .bin .quo (.t 13) (.t 14)⟩, ⟨some 16, none, .mv (.t 1)⟩, ⟨some 17, none, .mv (.t 5)⟩, ⟨some 18, none, .bin .quo (.t 16) (.t 17)⟩, ⟨some 19, none, .bld [.int .i64 0, .int .i64 0] [(0, 1, .t 15), (1, 1, .t 18)]⟩, ⟨none, none, .st (.t 4) (.t 19) 2⟩] []) .ret)))
theorem code_impl_lowest : HasCode Try.prog fn_impl_lowest mc_impl_lowest [.c 4 2 true] 20 := ⟨mixed, Try.f12, _, Try.func12, rfl, by kernel_rfl, by kernel_rfl, rfl, by kernel_rfl⟩

def mc_spec_newReader : MC :=
  .seq (.reg [⟨some 2, none, .mv (.c .nilPtr)⟩]) (.seq (.seq (.reg [⟨some 3, none, .mv (.t 0)⟩, ⟨some 4, none, .len (.t 3)⟩, ⟨some 5, none, .bin .gtr (.t 4) (.c (.int .i64 2000))⟩]) (.cond (.t 5) (.reg [⟨some 6, none, .mv (.t 0)⟩, ⟨some 7, none, .sl (.t 6) none (some (.c (.int .i64 2000))) none 1⟩, ⟨some 0, none, .mv (.t 7)⟩]) .skip)) (.seq (.reg [⟨some 8, none, .mv (.t 0)⟩, ⟨some 9, none, .bld [.nilSlice, .int .i64 0] [(0, 1, .t 8)]⟩, ⟨some 10, none, .box (.t 9)⟩, ⟨some 2, none, .mv (.t 10)⟩]) .ret))
theorem code_spec_newReader : HasCode Try.prog fn_spec_newReader mc_spec_newReader [.t 2] 11 := ⟨mixed, Try.f13, _, Try.func13, rfl, by kernel_rfl, by kernel_rfl, rfl, by kernel_rfl⟩

def mc_spec_reader_one : MC :=
  .seq (.reg [⟨some 4, none, .mv (.c (.int .i64 0))⟩]) (.seq (.reg [⟨some 5, none, .mv (.t 1)⟩, ⟨some 6, none, .mv (.t 0)⟩, ⟨some 7, none, .mv (.t 1)⟩, ⟨some 8, none, .len (.t 7)⟩, ⟨some 9, none, .call fn_spec_reader_pick [.t 6, .t 8]⟩, ⟨some 10, none, .ixa (.t 5) (.t 9) 1⟩, ⟨some 11, none, .ld (.t 10) 1 false⟩, ⟨some 4, none, .mv (.t 11)⟩]) .ret)
theorem code_spec_reader_one : HasCode Try.prog fn_spec_reader_one mc_spec_reader_one [.t 4] 12 := ⟨mixed, Try.f14, _, Try.func14, rfl, by kernel_rfl, by kernel_rfl, rfl, by kernel_rfl⟩

def mc_spec_reader_pick : MC :=
  .seq (.reg [⟨some 4, none, .mv (.c (.int .i64 0))⟩]) (.seq (.reg [⟨some 7, none, .mv (.t 0)⟩, ⟨some 8, none, .mv (.t 0)⟩, ⟨some 9, none, .nilck (.t 8)⟩, ⟨some 10, none, .fa (.t 9) 1⟩, ⟨some 11, none, .ld (.t 10) 1 false⟩, ⟨some 12, none, .bin .add (.t 11) (.c (.int .i64 1))⟩, ⟨some 13, none, .nilck (.t 7)⟩, ⟨some 14, none, .fa (.t 13) 1⟩, ⟨none, none, .st (.t 14) (.t 12) 1⟩]) (.seq (.seq (.reg [⟨some 15, none, .mv (.t 1)⟩, ⟨some 16, none, .bin .lss (.t 15) (.c (.int .i64 1))⟩, ⟨some 17, none, .mv (.t 16)⟩, ⟨some 18, some (17, false), .mv (.t 0)⟩, ⟨some 19, some (17, false), .nilck (.t 18)⟩, ⟨some 20, some (17, false), .fa (.t 19) 0⟩, ⟨some 21, some (17, false), .ld (.t 20) 1 false⟩, ⟨some 22, some (17, false), .len (.t 21)⟩, ⟨some 23, some (17, false), .bin .eql (.t 22) (.c (.int .i64 0))⟩, ⟨some 24, none, .pick (.t 17) (.c (.bool true)) (.t 23)⟩]) (.cond (.t 24) (.seq (.reg [⟨some 4, none, .mv (.c (.int .i64 0))⟩]) .ret) .skip)) (.seq (.reg [⟨some 25, none, .mv (.t 0)⟩, ⟨some 26, none, .nilck (.t 25)⟩, ⟨some 27, none, .fa (.t 26) 1⟩, ⟨some 28, none, .ld (.t 27) 1 false⟩, ⟨some 29, none, .bin .sub (.t 28) (.c (.int .i64 1))⟩, ⟨some 5, none, .mv (.t 29)⟩]) (.seq (.seq (.reg [⟨some 30, none, .mv (.t 5)⟩, ⟨some 31, none, .mv (.t 0)⟩, ⟨some 32, none, .nilck (.t 31)⟩, ⟨some 33, none, .fa (.t 32) 0⟩, ⟨some 34, none, .ld (.t 33) 1 false⟩, ⟨some 35, none, .len (.t 34)⟩, ⟨some 36, none, .bin .lss (.t 30) (.t 35)⟩]) (.cond (.t 36) (.seq (.reg [⟨some 37, none, .mv (.t 0)⟩, ⟨some 38, none, .nilck (.t 37)⟩, ⟨some 39, none, .fa (.t 38) 0⟩, ⟨some 40, none, .ld (.t 39) 1 false⟩, ⟨some 41, none, .mv (.t 5)⟩, ⟨some 42, none, .ixa (.t 40) (.t 41) 1⟩, ⟨some 43, none, .ld (.t 42) 1 false⟩, ⟨some 44, none, .conv .i64 (.t 43)⟩, ⟨some 45, none, .mv (.t 1)⟩, ⟨some 46, none, .bin .rem (.t 44) (.t 45)⟩, ⟨some 4, none, .mv (.t 46)⟩]) .ret) .skip)) (.seq (.drq [⟨some 47, none, .mv (.t 0)⟩, ⟨some 48, none, .nilck (.t 47)⟩, ⟨some 49, none, .fa (.t 48) 0⟩, ⟨some 50, none, .ld (.t 49) 1 false⟩, ⟨some 51, none, .mv (.t 5)⟩, ⟨some 52, none, .mv (.t 0)⟩, ⟨some 53, none, .nilck (.t 52)⟩, ⟨some 54, none, .fa (.t 53) 0⟩, ⟨some 55, none, .ld (.t 54) 1 false⟩, ⟨some 56, none, .len (.t 55)⟩, ⟨some 57, none, .bin .rem (.t 51) (.t 56)⟩, ⟨some 58, none, .ixa (.t 50) (.t 57) 1⟩, ⟨some 59, none, .ld (.t 58) 1 false⟩, ⟨some 60, none, .conv .i64 (.t 59)⟩, ⟨some 61, none, .bin .mul (.t 60) (.c (.int .i64 131))⟩, ⟨some 62, none, .mv (.t 0)⟩, ⟨some 63, none, .nilck (.t 62)⟩, ⟨some 64, none, .fa (.t 63) 0⟩, ⟨some 65, none, .ld (.t 64) 1 false⟩, ⟨some 66, none, .mv (.t 5)⟩, ⟨some 67, none, .bin .mul (.t 66) (.c (.int .i64 7))⟩, ⟨some 68, none, .bin .add (.t 67) (.c (.int .i64 3))⟩, ⟨some 69, none, .mv (.t 0)⟩, ⟨some 70, none, .nilck (.t 69)⟩, ⟨some 71, none, .fa (.t 70) 0⟩, ⟨some 72, none, .ld (.t 71) 1 false⟩, ⟨some 73, none, .len (.t 72)⟩, ⟨some 74, none, .bin .rem (.t 68) (.t 73)⟩, ⟨some 75, none, .ixa (.t 65) (.t 74) 1⟩, ⟨some 76, none, .ld (.t 75) 1 false⟩, ⟨some 77, none, .conv .i64 (.t 76)⟩, ⟨some 78, none, .bin .mul (.t 77) (.c (.int .i64 1117))⟩, ⟨some 79, none, .bin .add (.t 61) (.t 78)⟩, ⟨some 80, none, .mv (.t 5)⟩, ⟨some 81, none, .bin .mul (.t 80) (.c (.int .i64 29))⟩, ⟨some 82, none, .bin .add (.t 79) (.t 81)⟩, ⟨some 83, none, .mv (.t 5)⟩, ⟨some 84, none, .mv (.t 0)⟩, ⟨some 85, none, .nilck (.t 84)⟩, ⟨some 86, none, .fa (.t 85) 0⟩, ⟨some 87, none, .ld (.t 86) 1 false⟩, ⟨some 88, none, .len (.t 87)⟩, ⟨some 89, none, .bin .quo (.t 83) (.t 88)⟩, ⟨some 90, none, .bin .mul (.t 89) (.c (.int .i64 53))⟩, ⟨some 91, none, .bin .add (.t 82) (.t 90)⟩, ⟨some 6, none, .mv (.t 91)⟩]) (.seq (.reg [⟨some 92, none, .mv (.t 6)⟩, ⟨some 93, none, .mv (.t 6)⟩, ⟨some 94, none, .bin .quo (.t 93) (.c (.int .i64 64))⟩, ⟨some 95, none, .bin .xor (.t 92) (.t 94)⟩, ⟨some 6, none, .mv (.t 95)⟩]) (.seq (.reg [⟨some 96, none, .mv (.t 6)⟩, ⟨some 97, none, .mv (.t 1)⟩, ⟨some 98, none, .bin .rem (.t 96) (.t 97)⟩, ⟨some 4, none, .mv (.t 98)⟩]) .ret)))))))
theorem code_spec_reader_pick : HasCode Try.prog fn_spec_reader_pick mc_spec_reader_pick [.t 4] 99 := ⟨mixed, Try.f15, _, Try.func15, rfl, by kernel_rfl, by kernel_rfl, rfl, by kernel_rfl⟩

def mc_spec_gcd : MC :=
  .seq (.reg [⟨some 4, none, .mv (.c (.int .i64 0))⟩]) (.seq (.block 0 (.loop (.seq (.seq (.reg [⟨some 6, none, .mv (.t 1)⟩, ⟨some 7, none, .bin .neq (.t 6) (.c (.int .i64 0))⟩]) (.cond (.t 7) .skip (.exit 0))) (.block 1 (.seq (.reg [⟨some 8, none, .mv (.t 0)⟩, ⟨some 9, none, .mv (.t 1)⟩, ⟨some 10, none, .bin .rem (.t 8) (.t 9)⟩, ⟨some 5, none, .mv (.t 10)⟩]) (.seq (.reg [⟨some 11, none, .mv (.t 1)⟩, ⟨some 0, none, .mv (.t 11)⟩]) (.reg [⟨some 12, none, .mv (.t 5)⟩, ⟨some 1, none, .mv (.t 12)⟩]))))))) (.seq (.reg [⟨some 13, none, .mv (.t 0)⟩, ⟨some 14, none, .mv (.t 0)⟩, ⟨some 15, none, .un .neg (.t 14)⟩, ⟨some 16, none, .mnmx true (.t 13) [.t 15]⟩, ⟨some 4, none, .mv (.t 16)⟩]) .ret))
theorem code_spec_gcd : HasCode Try.prog fn_spec_gcd mc_spec_gcd [.t 4] 17 := ⟨mixed, Try.f16, _, Try.func16, rfl, by kernel_rfl, by kernel_rfl, rfl, by kernel_rfl⟩

def mc_impl_commonFactor : MC :=
  .seq (.reg [⟨some 4, none, .mv (.c (.int .i64 0))⟩]) (.seq (.block 0 (.loop (.seq (.seq (.reg [⟨some 5, none, .mv (.t 1)⟩, ⟨some 6, none, .bin .neq (.t 5) (.c (.int .i64 0))⟩]) (.cond (.t 6) .skip (.exit 0))) (.block 1 (.drq [⟨some 7, none, .mv (.t 1)⟩, ⟨some 8, none, .mv (.t 0)⟩, ⟨some 9, none, .mv (.t 1)⟩, ⟨some 10, none, .bin .rem (.t 8) (.t 9)⟩, ⟨some 0, none, .mv (.t 7)⟩, ⟨some 1, none, .mv (.t 10)⟩]))))) (.seq (.reg [⟨some 11, none, .mv (.t 0)⟩, ⟨some 12, none, .call fn_impl_apart [.t 11, .c (.int .i64 0)]⟩, ⟨some 4, none, .mv (.t 12)⟩]) .ret))
theorem code_impl_commonFactor : HasCode Try.prog fn_impl_commonFactor mc_impl_commonFactor [.t 4] 13 := ⟨mixed, Try.f17, _, Try.func17, rfl, by kernel_rfl, by kernel_rfl, rfl, by kernel_rfl⟩

def mc_impl_apart : MC :=
  .seq (.reg [⟨some 4, none, .mv (.c (.int .i64 0))⟩]) (.seq (.reg [⟨some 5, none, .mv (.t 0)⟩, ⟨some 6, none, .mv (.t 1)⟩, ⟨some 7, none, .bin .sub (.t 5) (.t 6)⟩, ⟨some 8, none, .mv (.t 1)⟩, ⟨some 9, none, .mv (.t 0)⟩, ⟨some 10, none, .bin .sub (.t 8) (.t 9)⟩, ⟨some 11, none, .mnmx true (.t 7) [.t 10]⟩, ⟨some 4, none, .mv (.t 11)⟩]) .ret)
theorem code_impl_apart : HasCode Try.prog fn_impl_apart mc_impl_apart [.t 4] 12 := ⟨mixed, Try.f18, _, Try.func18, rfl, by kernel_rfl, by kernel_rfl, rfl, by kernel_rfl⟩

end Go.Rx.Try
