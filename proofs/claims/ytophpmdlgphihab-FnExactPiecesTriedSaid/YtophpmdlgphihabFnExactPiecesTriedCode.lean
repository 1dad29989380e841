/-
  The code of each function of the program, taken up. Made by a program.
-/
import Derived.Test.YtophpmdlgphihabProg
import Derived.Test.YtophpmdlgphihabRxI
import Derived.KernelRfl
namespace Go.Rx.Try
open Go.Proofs
set_option maxRecDepth 100000

abbrev fn_laws_FnExactPiecesTried : FuncId := 3
abbrev fn_laws_FnPiecesTried : FuncId := 4
abbrev fn_spec_PiecesTried : FuncId := 5
abbrev fn_laws_toIntS : FuncId := 6
abbrev fn_impl_PiecesTried : FuncId := 7
abbrev fn_laws_eqFrac : FuncId := 8
abbrev fn_laws_eqIntS : FuncId := 9
abbrev fn_spec_DrawPiecesTried : FuncId := 10
abbrev fn_laws_turned : FuncId := 11
abbrev fn_laws_negated : FuncId := 12
abbrev fn_spec_validSteps : FuncId := 13
abbrev fn_spec_inRange : FuncId := 14
abbrev fn_spec_cutFrom : FuncId := 15
abbrev fn_impl_validPieces : FuncId := 16
abbrev fn_impl_allCuts : FuncId := 17
abbrev fn_impl_whole : FuncId := 18
abbrev fn_impl_Frac_plus : FuncId := 19
abbrev fn_impl_missedSquares : FuncId := 20
abbrev fn_impl_least_impl_Frac : FuncId := 21
abbrev fn_spec_newReader : FuncId := 22
abbrev fn_spec_stepList : FuncId := 23
abbrev fn_spec_reader_one : FuncId := 24
abbrev fn_spec_frac : FuncId := 25
abbrev fn_spec_miss : FuncId := 26
abbrev fn_spec_plus : FuncId := 27
abbrev fn_spec_less : FuncId := 28
abbrev fn_impl_validHeights : FuncId := 29
abbrev fn_impl_allCuts_1 : FuncId := 30
abbrev fn_impl_firstPlaces : FuncId := 31
abbrev fn_impl_piecesBehind : FuncId := 32
abbrev fn_impl_lowest : FuncId := 33
abbrev fn_spec_reader_pick : FuncId := 34
abbrev fn_spec_gcd : FuncId := 35
abbrev fn_impl_places_has : FuncId := 36
abbrev fn_impl_commonFactor : FuncId := 37
abbrev fn_impl_apart : FuncId := 38
abbrev fn_runtime_boundsError_Error : FuncId := 39
abbrev fn_runtime_boundsError_RuntimeError : FuncId := 40
abbrev fn_runtime_errorString_Error : FuncId := 41
abbrev fn_runtime_errorString_RuntimeError : FuncId := 42
abbrev fn_runtime_plainError_Error : FuncId := 43
abbrev fn_runtime_plainError_RuntimeError : FuncId := 44
abbrev fn_runtime_errorAddressString_Error : FuncId := 45
abbrev fn_runtime_errorAddressString_RuntimeError : FuncId := 46
abbrev fn_runtime_TypeAssertionError_Error : FuncId := 47
abbrev fn_runtime_TypeAssertionError_RuntimeError : FuncId := 48
abbrev fn_runtime_PanicNilError_Error : FuncId := 49
abbrev fn_runtime_PanicNilError_RuntimeError : FuncId := 50
abbrev fn_internal_abi_Type_Align : FuncId := 51
abbrev fn_internal_runtime_maps_unhashableTypeError_Error : FuncId := 52
abbrev fn_internal_runtime_maps_unhashableTypeError_RuntimeError : FuncId := 53
abbrev fn_impl_Frac_compare : FuncId := 54
abbrev fn_impl_Frac_size : FuncId := 55
abbrev fn_cmp_Compare_int : FuncId := 56
abbrev fn_cmp_isNaN_int : FuncId := 57
abbrev fn_internal_abi_Kind_String : FuncId := 58
abbrev ty_abi_BoundsErrorCode : TypeId := 6
abbrev ty_maps_unhashableTypeError : TypeId := 19
abbrev ty_impl_Frac : TypeId := 24
abbrev ty_impl_places : TypeId := 55
abbrev ty_spec_reader : TypeId := 60
abbrev ty_abi_TFlag : TypeId := 72
abbrev ty_abi_Kind : TypeId := 73
abbrev ty_abi_NameOff : TypeId := 76
abbrev ty_abi_TypeOff : TypeId := 77
abbrev ty_abi_Type : TypeId := 79
theorem mixed : Try.prog.follows .mixedOrders = true := by kernel_rfl

def mc_laws_FnExactPiecesTried : MC :=
  .seq (.reg [⟨some 4, none, .mv (.c (.bool false))⟩]) (.seq (.seq (.reg [⟨some 10, none, .mv (.t 0)⟩, ⟨some 11, none, .len (.t 10)⟩, ⟨some 12, none, .bin .gtr (.t 11) (.c (.int .i64 1048576))⟩]) (.cond (.t 12) (.seq (.reg [⟨some 4, none, .mv (.c (.bool true))⟩]) .ret) .skip)) (.seq (.reg [⟨some 14, none, .mv (.t 0)⟩, ⟨some 15, none, .call fn_laws_toIntS [.t 14]⟩, ⟨some 16, none, .mv (.t 1)⟩, ⟨some 17, none, .call fn_spec_PiecesTried [.t 15, .t 16]⟩, ⟨some 13, none, .mv (.t 17)⟩, ⟨some 18, none, .ext (.t 13) 0⟩, ⟨some 19, none, .ext (.t 13) 1⟩, ⟨some 5, none, .new [.int .i64 0, .int .i64 0]⟩, ⟨none, none, .st (.t 5) (.t 18) 2⟩, ⟨some 6, none, .mv (.t 19)⟩]) (.seq (.reg [⟨some 20, none, .mv (.t 0)⟩, ⟨some 21, none, .call fn_laws_toIntS [.t 20]⟩, ⟨some 7, none, .mv (.t 21)⟩]) (.seq (.reg [⟨some 23, none, .mv (.t 7)⟩, ⟨some 24, none, .mv (.t 1)⟩, ⟨some 25, none, .call fn_impl_PiecesTried [.t 23, .t 24]⟩, ⟨some 22, none, .mv (.t 25)⟩, ⟨some 26, none, .ext (.t 22) 0⟩, ⟨some 27, none, .ext (.t 22) 1⟩, ⟨some 8, none, .new [.int .i64 0, .int .i64 0]⟩, ⟨none, none, .st (.t 8) (.t 26) 2⟩, ⟨some 9, none, .mv (.t 27)⟩]) (.seq (.seq (.reg [⟨some 28, none, .ld (.t 8) 2 true⟩, ⟨some 29, none, .ld (.t 5) 2 true⟩, ⟨some 30, none, .call fn_laws_eqFrac [.t 28, .t 29]⟩, ⟨some 31, none, .un .not (.t 30)⟩, ⟨some 32, none, .mv (.t 31)⟩, ⟨some 33, some (32, false), .mv (.t 9)⟩, ⟨some 34, some (32, false), .mv (.t 6)⟩, ⟨some 35, some (32, false), .beq true (.t 33) (.t 34)⟩, ⟨some 36, none, .pick (.t 32) (.c (.bool true)) (.t 35)⟩]) (.cond (.t 36) (.seq (.reg [⟨some 4, none, .mv (.c (.bool false))⟩]) .ret) .skip)) (.seq (.seq (.reg [⟨some 37, none, .mv (.t 7)⟩, ⟨some 38, none, .mv (.t 0)⟩, ⟨some 39, none, .call fn_laws_toIntS [.t 38]⟩, ⟨some 40, none, .call fn_laws_eqIntS [.t 37, .t 39]⟩, ⟨some 41, none, .un .not (.t 40)⟩]) (.cond (.t 41) (.seq (.reg [⟨some 4, none, .mv (.c (.bool false))⟩]) .ret) .skip)) (.seq (.reg [⟨some 4, none, .mv (.c (.bool true))⟩]) .ret)))))))
theorem code_laws_FnExactPiecesTried : HasCode Try.prog fn_laws_FnExactPiecesTried mc_laws_FnExactPiecesTried [.t 4] 42 := ⟨mixed, Try.f3, _, Try.func3, rfl, by kernel_rfl, by kernel_rfl, rfl, by kernel_rfl, rfl⟩

def mc_spec_PiecesTried : MC :=
  .seq (.reg [⟨some 4, none, .new [.int .i64 0, .int .i64 0]⟩, ⟨some 5, none, .mv (.c (.bool false))⟩]) (.seq (.seq (.reg [⟨some 6, none, .mv (.t 0)⟩, ⟨some 7, none, .call fn_spec_validSteps [.t 6]⟩, ⟨some 8, none, .un .not (.t 7)⟩, ⟨some 9, none, .mv (.t 8)⟩, ⟨some 10, some (9, false), .mv (.t 1)⟩, ⟨some 11, some (9, false), .call fn_spec_inRange [.t 10, .c (.int .i64 1), .c (.int .i64 8)]⟩, ⟨some 12, some (9, false), .un .not (.t 11)⟩, ⟨some 13, none, .pick (.t 9) (.c (.bool true)) (.t 12)⟩]) (.cond (.t 13) (.seq (.reg [⟨some 14, none, .bld [.int .i64 0, .int .i64 0] []⟩, ⟨none, none, .st (.t 4) (.t 14) 2⟩, ⟨some 5, none, .mv (.c (.bool false))⟩]) .ret) .skip)) (.seq (.reg [⟨some 15, none, .mv (.t 0)⟩, ⟨some 16, none, .mv (.t 1)⟩, ⟨some 17, none, .call fn_spec_cutFrom [.t 15, .c (.int .i64 0), .t 16]⟩, ⟨none, none, .st (.t 4) (.t 17) 2⟩, ⟨some 5, none, .mv (.c (.bool true))⟩]) .ret))
theorem code_spec_PiecesTried : HasCode Try.prog fn_spec_PiecesTried mc_spec_PiecesTried [.c 4 2 true, .t 5] 18 := ⟨mixed, Try.f5, _, Try.func5, rfl, by kernel_rfl, by kernel_rfl, rfl, by kernel_rfl, rfl⟩

def mc_laws_toIntS : MC :=
  .seq (.reg [⟨some 2, none, .mv (.c .nilSlice)⟩]) (.seq (.reg [⟨some 5, none, .mv (.t 0)⟩, ⟨some 6, none, .len (.t 5)⟩, ⟨some 7, none, .mks (.t 6) (.t 6) [.int .i64 0] 1 8⟩, ⟨some 3, none, .mv (.t 7)⟩]) (.seq (.seq (.reg [⟨some 4, none, .mv (.c (.int .i64 0))⟩]) (.block 0 (.loop (.seq (.seq (.reg [⟨some 8, none, .mv (.t 4)⟩, ⟨some 9, none, .mv (.t 0)⟩, ⟨some 10, none, .len (.t 9)⟩, ⟨some 11, none, .bin .lss (.t 8) (.t 10)⟩]) (.cond (.t 11) .skip (.exit 0))) (.seq (.block 1 (.reg [⟨some 14, none, .mv (.t 3)⟩, ⟨some 15, none, .mv (.t 4)⟩, ⟨some 16, none, .mv (.t 0)⟩, ⟨some 17, none, .mv (.t 4)⟩, ⟨some 18, none, .ixa (.t 16) (.t 17) 1⟩, ⟨some 19, none, .ld (.t 18) 1 false⟩, ⟨some 20, none, .ixa (.t 14) (.t 15) 1⟩, ⟨none, none, .st (.t 20) (.t 19) 1⟩])) (.reg [⟨some 12, none, .mv (.t 4)⟩, ⟨some 13, none, .bin .add (.t 12) (.c (.int .i64 1))⟩, ⟨some 4, none, .mv (.t 13)⟩])))))) (.seq (.reg [⟨some 21, none, .mv (.t 3)⟩, ⟨some 2, none, .mv (.t 21)⟩]) .ret)))
theorem code_laws_toIntS : HasCode Try.prog fn_laws_toIntS mc_laws_toIntS [.t 2] 22 := ⟨mixed, Try.f6, _, Try.func6, rfl, by kernel_rfl, by kernel_rfl, rfl, by kernel_rfl, rfl⟩

def mc_impl_PiecesTried : MC :=
  .seq (.reg [⟨some 4, none, .new [.int .i64 0, .int .i64 0]⟩, ⟨some 5, none, .mv (.c (.bool false))⟩]) (.seq (.seq (.reg [⟨some 11, none, .mv (.t 0)⟩, ⟨some 12, none, .mv (.t 1)⟩, ⟨some 13, none, .call fn_impl_validPieces [.t 11, .t 12]⟩, ⟨some 14, none, .un .not (.t 13)⟩]) (.cond (.t 14) (.seq (.reg [⟨some 15, none, .bld [.int .i64 0, .int .i64 0] []⟩, ⟨none, none, .st (.t 4) (.t 15) 2⟩, ⟨some 5, none, .mv (.c (.bool false))⟩]) .ret) .skip)) (.seq (.reg [⟨some 6, none, .new [.nilSlice]⟩]) (.seq (.seq (.reg [⟨some 16, none, .mv (.t 0)⟩, ⟨some 17, none, .mv (.t 1)⟩, ⟨some 18, none, .call fn_impl_allCuts [.t 16, .t 17]⟩]) (.block 0 (.rfunc (.t 18) [19] (.reg [⟨some 7, none, .mv (.t 19)⟩]) (.block 1 (.seq (.reg [⟨some 20, none, .call fn_impl_whole [.c (.int .i64 0)]⟩, ⟨some 8, none, .new [.int .i64 0, .int .i64 0]⟩, ⟨none, none, .st (.t 8) (.t 20) 2⟩]) (.seq (.seq (.reg [⟨some 21, none, .mv (.t 7)⟩, ⟨some 22, none, .len (.t 21)⟩, ⟨some 23, none, .mv (.c (.int .i64 0))⟩]) (.block 2 (.loop (.seq (.reg [⟨some 24, none, .bin .lss (.t 23) (.t 22)⟩]) (.seq (.cond (.t 24) .skip (.exit 2)) (.seq (.block 3 (.seq (.reg [⟨some 25, none, .ixa (.t 21) (.t 23) 1⟩, ⟨some 26, none, .ld (.t 25) 1 false⟩, ⟨some 10, none, .mv (.t 26)⟩]) (.drc [⟨some 27, none, .ld (.t 8) 2 true⟩, ⟨some 28, none, .mv (.t 10)⟩, ⟨some 29, none, .call fn_impl_missedSquares [.t 28]⟩, ⟨some 30, none, .call fn_impl_Frac_plus [.t 27, .t 29]⟩, ⟨none, none, .st (.t 8) (.t 30) 2⟩] []))) (.reg [⟨some 31, none, .bin .add (.t 23) (.c (.int .i64 1))⟩, ⟨some 23, none, .mv (.t 31)⟩]))))))) (.reg [⟨some 32, none, .ld (.t 6) 1 false⟩, ⟨some 33, none, .ld (.t 8) 2 true⟩, ⟨some 34, none, .bsl 1 2 [.int .i64 0, .int .i64 0] [(0, .t 33)]⟩, ⟨some 35, none, .app (.t 32) (.t 34) 2 16⟩, ⟨none, none, .st (.t 6) (.t 35) 1⟩]))))))) (.seq (.drc [⟨some 36, none, .ld (.t 6) 1 false⟩, ⟨some 37, none, .ixa (.t 36) (.c (.int .i64 0)) 2⟩, ⟨some 38, none, .ld (.t 37) 2 true⟩, ⟨some 39, none, .ld (.t 6) 1 false⟩, ⟨some 40, none, .sl (.t 39) (some (.c (.int .i64 1))) none none 2⟩, ⟨some 41, none, .call fn_impl_least_impl_Frac [.t 38, .t 40]⟩, ⟨none, none, .st (.t 4) (.t 41) 2⟩, ⟨some 5, none, .mv (.c (.bool true))⟩] []) .ret))))
theorem code_impl_PiecesTried : HasCode Try.prog fn_impl_PiecesTried mc_impl_PiecesTried [.c 4 2 true, .t 5] 42 := ⟨mixed, Try.f7, _, Try.func7, rfl, by kernel_rfl, by kernel_rfl, rfl, by kernel_rfl, rfl⟩

def mc_laws_eqFrac : MC :=
  .seq (.reg [⟨some 2, none, .box (.t 0)⟩, ⟨some 3, none, .box (.t 1)⟩, ⟨some 4, none, .mv (.c (.bool false))⟩]) (.seq (.seq (.reg [⟨some 5, none, .fa (.t 2) 0⟩, ⟨some 6, none, .ld (.t 5) 1 false⟩, ⟨some 7, none, .fa (.t 3) 0⟩, ⟨some 8, none, .ld (.t 7) 1 false⟩, ⟨some 9, none, .bin .neq (.t 6) (.t 8)⟩]) (.cond (.t 9) (.seq (.reg [⟨some 4, none, .mv (.c (.bool false))⟩]) .ret) .skip)) (.seq (.seq (.reg [⟨some 10, none, .fa (.t 2) 1⟩, ⟨some 11, none, .ld (.t 10) 1 false⟩, ⟨some 12, none, .fa (.t 3) 1⟩, ⟨some 13, none, .ld (.t 12) 1 false⟩, ⟨some 14, none, .bin .neq (.t 11) (.t 13)⟩]) (.cond (.t 14) (.seq (.reg [⟨some 4, none, .mv (.c (.bool false))⟩]) .ret) .skip)) (.seq (.reg [⟨some 4, none, .mv (.c (.bool true))⟩]) .ret)))
theorem code_laws_eqFrac : HasCode Try.prog fn_laws_eqFrac mc_laws_eqFrac [.t 4] 15 := ⟨mixed, Try.f8, _, Try.func8, rfl, by kernel_rfl, by kernel_rfl, rfl, by kernel_rfl, rfl⟩

def mc_laws_eqIntS : MC :=
  .seq (.reg [⟨some 4, none, .mv (.c (.bool false))⟩]) (.seq (.seq (.reg [⟨some 6, none, .mv (.t 0)⟩, ⟨some 7, none, .len (.t 6)⟩, ⟨some 8, none, .mv (.t 1)⟩, ⟨some 9, none, .len (.t 8)⟩, ⟨some 10, none, .bin .neq (.t 7) (.t 9)⟩]) (.cond (.t 10) (.seq (.reg [⟨some 4, none, .mv (.c (.bool false))⟩]) .ret) .skip)) (.seq (.seq (.reg [⟨some 5, none, .mv (.c (.int .i64 0))⟩]) (.block 0 (.loop (.seq (.seq (.reg [⟨some 11, none, .mv (.t 5)⟩, ⟨some 12, none, .mv (.t 0)⟩, ⟨some 13, none, .len (.t 12)⟩, ⟨some 14, none, .bin .lss (.t 11) (.t 13)⟩]) (.cond (.t 14) .skip (.exit 0))) (.seq (.block 1 (.seq (.drq [⟨some 17, none, .mv (.t 0)⟩, ⟨some 18, none, .mv (.t 5)⟩, ⟨some 19, none, .ixa (.t 17) (.t 18) 1⟩, ⟨some 20, none, .ld (.t 19) 1 false⟩, ⟨some 21, none, .mv (.t 1)⟩, ⟨some 22, none, .mv (.t 5)⟩, ⟨some 23, none, .ixa (.t 21) (.t 22) 1⟩, ⟨some 24, none, .ld (.t 23) 1 false⟩, ⟨some 25, none, .bin .neq (.t 20) (.t 24)⟩]) (.cond (.t 25) (.seq (.reg [⟨some 4, none, .mv (.c (.bool false))⟩]) .ret) .skip))) (.reg [⟨some 15, none, .mv (.t 5)⟩, ⟨some 16, none, .bin .add (.t 15) (.c (.int .i64 1))⟩, ⟨some 5, none, .mv (.t 16)⟩])))))) (.seq (.reg [⟨some 4, none, .mv (.c (.bool true))⟩]) .ret)))
theorem code_laws_eqIntS : HasCode Try.prog fn_laws_eqIntS mc_laws_eqIntS [.t 4] 26 := ⟨mixed, Try.f9, _, Try.func9, rfl, by kernel_rfl, by kernel_rfl, rfl, by kernel_rfl, rfl⟩

def mc_spec_validSteps : MC :=
  .seq (.reg [⟨some 2, none, .mv (.c (.bool false))⟩]) (.seq (.seq (.reg [⟨some 3, none, .mv (.c (.int .i64 0))⟩]) (.block 0 (.loop (.seq (.seq (.reg [⟨some 4, none, .mv (.t 3)⟩, ⟨some 5, none, .mv (.t 0)⟩, ⟨some 6, none, .len (.t 5)⟩, ⟨some 7, none, .bin .lss (.t 4) (.t 6)⟩]) (.cond (.t 7) .skip (.exit 0))) (.seq (.block 1 (.seq (.reg [⟨some 10, none, .mv (.t 0)⟩, ⟨some 11, none, .mv (.t 3)⟩, ⟨some 12, none, .ixa (.t 10) (.t 11) 1⟩, ⟨some 13, none, .ld (.t 12) 1 false⟩, ⟨some 14, none, .call fn_spec_inRange [.t 13, .c (.int .i64 (-30)), .c (.int .i64 30)]⟩, ⟨some 15, none, .un .not (.t 14)⟩]) (.cond (.t 15) (.seq (.reg [⟨some 2, none, .mv (.c (.bool false))⟩]) .ret) .skip))) (.reg [⟨some 8, none, .mv (.t 3)⟩, ⟨some 9, none, .bin .add (.t 8) (.c (.int .i64 1))⟩, ⟨some 3, none, .mv (.t 9)⟩])))))) (.seq (.reg [⟨some 16, none, .mv (.t 0)⟩, ⟨some 17, none, .len (.t 16)⟩, ⟨some 18, none, .call fn_spec_inRange [.t 17, .c (.int .i64 1), .c (.int .i64 8)]⟩, ⟨some 2, none, .mv (.t 18)⟩]) .ret))
theorem code_spec_validSteps : HasCode Try.prog fn_spec_validSteps mc_spec_validSteps [.t 2] 19 := ⟨mixed, Try.f13, _, Try.func13, rfl, by kernel_rfl, by kernel_rfl, rfl, by kernel_rfl, rfl⟩

def mc_spec_inRange : MC :=
  .seq (.reg [⟨some 6, none, .mv (.c (.bool false))⟩]) (.seq (.reg [⟨some 7, none, .mv (.t 1)⟩, ⟨some 8, none, .mv (.t 0)⟩, ⟨some 9, none, .bin .leq (.t 7) (.t 8)⟩, ⟨some 10, none, .mv (.t 9)⟩, ⟨some 11, some (10, true), .mv (.t 0)⟩, ⟨some 12, some (10, true), .mv (.t 2)⟩, ⟨some 13, some (10, true), .bin .leq (.t 11) (.t 12)⟩, ⟨some 14, none, .pick (.t 10) (.t 13) (.c (.bool false))⟩, ⟨some 6, none, .mv (.t 14)⟩]) .ret)
theorem code_spec_inRange : HasCode Try.prog fn_spec_inRange mc_spec_inRange [.t 6] 15 := ⟨mixed, Try.f14, _, Try.func14, rfl, by kernel_rfl, by kernel_rfl, rfl, by kernel_rfl, rfl⟩

def mc_spec_cutFrom : MC :=
  .seq (.reg [⟨some 6, none, .new [.int .i64 0, .int .i64 0]⟩]) (.seq (.seq (.reg [⟨some 10, none, .mv (.t 1)⟩, ⟨some 11, none, .mv (.t 0)⟩, ⟨some 12, none, .len (.t 11)⟩, ⟨some 13, none, .bin .eql (.t 10) (.t 12)⟩]) (.cond (.t 13) (.seq (.reg [⟨some 14, none, .call fn_spec_frac [.c (.int .i64 0), .c (.int .i64 1)]⟩, ⟨none, none, .st (.t 6) (.t 14) 2⟩]) .ret) .skip)) (.seq (.reg [⟨some 15, none, .mv (.t 0)⟩, ⟨some 16, none, .mv (.t 1)⟩, ⟨some 17, none, .mv (.t 0)⟩, ⟨some 18, none, .len (.t 17)⟩, ⟨some 19, none, .call fn_spec_miss [.t 15, .t 16, .t 18]⟩, ⟨some 7, none, .new [.int .i64 0, .int .i64 0]⟩, ⟨none, none, .st (.t 7) (.t 19) 2⟩]) (.seq (.seq (.reg [⟨some 20, none, .mv (.t 1)⟩, ⟨some 21, none, .bin .add (.t 20) (.c (.int .i64 1))⟩, ⟨some 8, none, .mv (.t 21)⟩]) (.block 0 (.loop (.seq (.seq (.reg [⟨some 22, none, .mv (.t 8)⟩, ⟨some 23, none, .mv (.t 0)⟩, ⟨some 24, none, .len (.t 23)⟩, ⟨some 25, none, .bin .lss (.t 22) (.t 24)⟩, ⟨some 26, none, .mv (.t 25)⟩, ⟨some 27, some (26, true), .mv (.t 2)⟩, ⟨some 28, some (26, true), .bin .gtr (.t 27) (.c (.int .i64 1))⟩, ⟨some 29, none, .pick (.t 26) (.t 28) (.c (.bool false))⟩]) (.cond (.t 29) .skip (.exit 0))) (.seq (.block 1 (.seq (.reg [⟨some 32, none, .mv (.t 0)⟩, ⟨some 33, none, .mv (.t 1)⟩, ⟨some 34, none, .mv (.t 8)⟩, ⟨some 35, none, .call fn_spec_miss [.t 32, .t 33, .t 34]⟩, ⟨some 36, none, .mv (.t 0)⟩, ⟨some 37, none, .mv (.t 8)⟩, ⟨some 38, none, .mv (.t 2)⟩, ⟨some 39, none, .bin .sub (.t 38) (.c (.int .i64 1))⟩, ⟨some 40, none, .call fn_spec_cutFrom [.t 36, .t 37, .t 39]⟩, ⟨some 41, none, .call fn_spec_plus [.t 35, .t 40]⟩, ⟨some 9, none, .new [.int .i64 0, .int .i64 0]⟩, ⟨none, none, .st (.t 9) (.t 41) 2⟩]) (.seq (.reg [⟨some 42, none, .ld (.t 9) 2 true⟩, ⟨some 43, none, .ld (.t 7) 2 true⟩, ⟨some 44, none, .call fn_spec_less [.t 42, .t 43]⟩]) (.cond (.t 44) (.reg [⟨some 45, none, .ld (.t 9) 2 true⟩, ⟨none, none, .st (.t 7) (.t 45) 2⟩]) .skip)))) (.reg [⟨some 30, none, .mv (.t 8)⟩, ⟨some 31, none, .bin .add (.t 30) (.c (.int .i64 1))⟩, ⟨some 8, none, .mv (.t 31)⟩])))))) (.seq (.reg [⟨some 46, none, .ld (.t 7) 2 true⟩, ⟨none, none, .st (.t 6) (.t 46) 2⟩]) .ret))))
theorem code_spec_cutFrom : HasCode Try.prog fn_spec_cutFrom mc_spec_cutFrom [.c 6 2 true] 47 := ⟨mixed, Try.f15, _, Try.func15, rfl, by kernel_rfl, by kernel_rfl, rfl, by kernel_rfl, rfl⟩

def mc_impl_validPieces : MC :=
  .seq (.reg [⟨some 4, none, .mv (.c (.bool false))⟩]) (.seq (.reg [⟨some 5, none, .mv (.t 0)⟩, ⟨some 6, none, .call fn_impl_validHeights [.t 5]⟩, ⟨some 7, none, .mv (.t 6)⟩, ⟨some 8, some (7, true), .mv (.t 1)⟩, ⟨some 9, some (7, true), .bin .geq (.t 8) (.c (.int .i64 1))⟩, ⟨some 10, none, .pick (.t 7) (.t 9) (.c (.bool false))⟩, ⟨some 11, none, .mv (.t 10)⟩, ⟨some 12, some (11, true), .mv (.t 1)⟩, ⟨some 13, some (11, true), .bin .leq (.t 12) (.c (.int .i64 8))⟩, ⟨some 14, none, .pick (.t 11) (.t 13) (.c (.bool false))⟩, ⟨some 4, none, .mv (.t 14)⟩]) .ret)
theorem code_impl_validPieces : HasCode Try.prog fn_impl_validPieces mc_impl_validPieces [.t 4] 15 := ⟨mixed, Try.f16, _, Try.func16, rfl, by kernel_rfl, by kernel_rfl, rfl, by kernel_rfl, rfl⟩

def mc_impl_allCuts : MC :=
  .seq (.reg [⟨some 2, none, .box (.t 0)⟩, ⟨some 3, none, .box (.t 1)⟩, ⟨some 4, none, .mv (.c .nilFunc)⟩]) (.seq (.reg [⟨some 5, none, .mkf fn_impl_allCuts_1 [.t 2, .t 3]⟩, ⟨some 4, none, .mv (.t 5)⟩]) .ret)
theorem code_impl_allCuts : HasCode Try.prog fn_impl_allCuts mc_impl_allCuts [.t 4] 6 := ⟨mixed, Try.f17, _, Try.func17, rfl, by kernel_rfl, by kernel_rfl, rfl, by kernel_rfl, rfl⟩

def mc_impl_whole : MC :=
  .seq (.reg [⟨some 2, none, .new [.int .i64 0, .int .i64 0]⟩]) (.seq (.reg [⟨some 3, none, .mv (.t 0)⟩, ⟨some 4, none, .bld [.int .i64 0, .int .i64 0] [(0, 1, .t 3), (1, 1, .c (.int .i64 1))]⟩, ⟨none, none, .st (.t 2) (.t 4) 2⟩]) .ret)
theorem code_impl_whole : HasCode Try.prog fn_impl_whole mc_impl_whole [.c 2 2 true] 5 := ⟨mixed, Try.f18, _, Try.func18, rfl, by kernel_rfl, by kernel_rfl, rfl, by kernel_rfl, rfl⟩

def mc_impl_Frac_plus : MC :=
  .seq (.reg [⟨some 2, none, .box (.t 0)⟩, ⟨some 3, none, .box (.t 1)⟩, ⟨some 4, none, .new [.int .i64 0, .int .i64 0]⟩]) (.seq (.reg [⟨some 5, none, .fa (.t 2) 0⟩, ⟨some 6, none, .ld (.t 5) 1 false⟩, ⟨some 7, none, .fa (.t 3) 1⟩, ⟨some 8, none, .ld (.t 7) 1 false⟩, ⟨some 9, none, .bin .mul (.t 6) (.t 8)⟩, ⟨some 10, none, .fa (.t 3) 0⟩, ⟨some 11, none, .ld (.t 10) 1 false⟩, ⟨some 12, none, .fa (.t 2) 1⟩, ⟨some 13, none, .ld (.t 12) 1 false⟩, ⟨some 14, none, .bin .mul (.t 11) (.t 13)⟩, ⟨some 15, none, .bin .add (.t 9) (.t 14)⟩, ⟨some 16, none, .fa (.t 2) 1⟩, ⟨some 17, none, .ld (.t 16) 1 false⟩, ⟨some 18, none, .fa (.t 3) 1⟩, ⟨some 19, none, .ld (.t 18) 1 false⟩, ⟨some 20, none, .bin .mul (.t 17) (.t 19)⟩, ⟨some 21, none, .call fn_impl_lowest [.t 15, .t 20]⟩, ⟨none, none, .st (.t 4) (.t 21) 2⟩]) .ret)
theorem code_impl_Frac_plus : HasCode Try.prog fn_impl_Frac_plus mc_impl_Frac_plus [.c 4 2 true] 22 := ⟨mixed, Try.f19, _, Try.func19, rfl, by kernel_rfl, by kernel_rfl, rfl, by kernel_rfl, rfl⟩

def mc_impl_missedSquares : MC :=
  .seq (.reg [⟨some 2, none, .new [.int .i64 0, .int .i64 0]⟩]) (.seq (.reg [⟨some 3, none, .mv (.c (.int .i64 0))⟩, ⟨some 4, none, .mv (.c (.int .i64 0))⟩]) (.seq (.seq (.reg [⟨some 7, none, .mv (.t 0)⟩, ⟨some 8, none, .len (.t 7)⟩, ⟨some 9, none, .mv (.c (.int .i64 0))⟩]) (.block 0 (.loop (.seq (.reg [⟨some 10, none, .bin .lss (.t 9) (.t 8)⟩]) (.seq (.cond (.t 10) .skip (.exit 0)) (.seq (.block 1 (.seq (.reg [⟨some 11, none, .ixa (.t 7) (.t 9) 1⟩, ⟨some 12, none, .ld (.t 11) 1 false⟩, ⟨some 6, none, .mv (.t 12)⟩]) (.seq (.reg [⟨some 13, none, .mv (.t 3)⟩, ⟨some 14, none, .mv (.t 6)⟩, ⟨some 15, none, .bin .add (.t 13) (.t 14)⟩, ⟨some 3, none, .mv (.t 15)⟩]) (.reg [⟨some 16, none, .mv (.t 4)⟩, ⟨some 17, none, .mv (.t 6)⟩, ⟨some 18, none, .mv (.t 6)⟩, ⟨some 19, none, .bin .mul (.t 17) (.t 18)⟩, ⟨some 20, none, .bin .add (.t 16) (.t 19)⟩, ⟨some 4, none, .mv (.t 20)⟩])))) (.reg [⟨some 21, none, .bin .add (.t 9) (.c (.int .i64 1))⟩, ⟨some 9, none, .mv (.t 21)⟩]))))))) (.seq (.reg [⟨some 22, none, .mv (.t 0)⟩, ⟨some 23, none, .len (.t 22)⟩, ⟨some 24, none, .mv (.t 4)⟩, ⟨some 25, none, .bin .mul (.t 23) (.t 24)⟩, ⟨some 26, none, .mv (.t 3)⟩, ⟨some 27, none, .mv (.t 3)⟩, ⟨some 28, none, .bin .mul (.t 26) (.t 27)⟩, ⟨some 29, none, .bin .sub (.t 25) (.t 28)⟩, ⟨some 30, none, .mv (.t 0)⟩, ⟨some 31, none, .len (.t 30)⟩, ⟨some 32, none, .call fn_impl_lowest [.t 29, .t 31]⟩, ⟨none, none, .st (.t 2) (.t 32) 2⟩]) .ret)))
theorem code_impl_missedSquares : HasCode Try.prog fn_impl_missedSquares mc_impl_missedSquares [.c 2 2 true] 33 := ⟨mixed, Try.f20, _, Try.func20, rfl, by kernel_rfl, by kernel_rfl, rfl, by kernel_rfl, rfl⟩

def mc_impl_least_impl_Frac : MC :=
  .seq (.reg [⟨some 2, none, .box (.t 0)⟩, ⟨some 4, none, .new [.int .i64 0, .int .i64 0]⟩]) (.seq (.seq (.reg [⟨some 7, none, .mv (.t 1)⟩, ⟨some 8, none, .len (.t 7)⟩, ⟨some 9, none, .mv (.c (.int .i64 0))⟩]) (.block 0 (.loop (.seq (.reg [⟨some 10, none, .bin .lss (.t 9) (.t 8)⟩]) (.seq (.cond (.t 10) .skip (.exit 0)) (.seq (.block 1 (.seq (.reg [⟨some 11, none, .ixa (.t 7) (.t 9) 2⟩, ⟨some 12, none, .ld (.t 11) 2 true⟩, ⟨some 6, none, .new [.int .i64 0, .int .i64 0]⟩, ⟨none, none, .st (.t 6) (.t 12) 2⟩]) (.seq (.reg [⟨some 13, none, .ld (.t 6) 2 true⟩, ⟨some 14, none, .mki 24 (.t 13)⟩, ⟨some 15, none, .ld (.t 2) 2 true⟩, ⟨some 16, none, .inv [(24, fn_impl_Frac_compare)] (.t 14) [.t 15]⟩, ⟨some 17, none, .bin .lss (.t 16) (.c (.int .i64 0))⟩]) (.cond (.t 17) (.reg [⟨some 18, none, .ld (.t 6) 2 true⟩, ⟨none, none, .st (.t 2) (.t 18) 2⟩]) .skip)))) (.reg [⟨some 19, none, .bin .add (.t 9) (.c (.int .i64 1))⟩, ⟨some 9, none, .mv (.t 19)⟩]))))))) (.seq (.reg [⟨some 20, none, .ld (.t 2) 2 true⟩, ⟨none, none, .st (.t 4) (.t 20) 2⟩]) .ret))
theorem code_impl_least_impl_Frac : HasCode Try.prog fn_impl_least_impl_Frac mc_impl_least_impl_Frac [.c 4 2 true] 21 := ⟨mixed, Try.f21, _, Try.func21, rfl, by kernel_rfl, by kernel_rfl, rfl, by kernel_rfl, rfl⟩

def mc_spec_frac : MC :=
  .seq (.reg [⟨some 4, none, .new [.int .i64 0, .int .i64 0]⟩]) (.seq (.seq (.reg [⟨some 6, none, .mv (.t 1)⟩, ⟨some 7, none, .bin .lss (.t 6) (.c (.int .i64 0))⟩]) (.cond (.t 7) (.seq (.reg [⟨some 8, none, .mv (.t 0)⟩, ⟨some 9, none, .un .neg (.t 8)⟩, ⟨some 0, none, .mv (.t 9)⟩]) (.reg [⟨some 10, none, .mv (.t 1)⟩, ⟨some 11, none, .un .neg (.t 10)⟩, ⟨some 1, none, .mv (.t 11)⟩])) .skip)) (.seq (.reg [⟨some 12, none, .mv (.t 0)⟩, ⟨some 13, none, .mv (.t 1)⟩, ⟨some 14, none, .call fn_spec_gcd [.t 12, .t 13]⟩, ⟨some 5, none, .mv (.t 14)⟩]) (.seq (.drw [⟨some 15, none, .mv (.t 0)⟩, ⟨some 16, none, .mv (.t 5)⟩, ⟨some 17, none, .bin .quo (.t 15) (.t 16)⟩, ⟨some 18, none, .mv (.t 1)⟩, ⟨some 19, none, .mv (.t 5)⟩, ⟨some 20, none, .bin .quo (.t 18) (.t 19)⟩, ⟨some 21, none, .bld [.int .i64 0, .int .i64 0] [(0, 1, .t 17), (1, 1, .t 20)]⟩, ⟨none, none, .st (.t 4) (.t 21) 2⟩] []) .ret)))
theorem code_spec_frac : HasCode Try.prog fn_spec_frac mc_spec_frac [.c 4 2 true] 22 := ⟨mixed, Try.f25, _, Try.func25, rfl, by kernel_rfl, by kernel_rfl, rfl, by kernel_rfl, rfl⟩

def mc_spec_miss : MC :=
  .seq (.reg [⟨some 6, none, .new [.int .i64 0, .int .i64 0]⟩]) (.seq (.reg [⟨some 11, none, .mv (.t 2)⟩, ⟨some 12, none, .mv (.t 1)⟩, ⟨some 13, none, .bin .sub (.t 11) (.t 12)⟩, ⟨some 7, none, .mv (.t 13)⟩]) (.seq (.reg [⟨some 8, none, .mv (.c (.int .i64 0))⟩]) (.seq (.reg [⟨some 9, none, .mv (.c (.int .i64 0))⟩]) (.seq (.seq (.reg [⟨some 14, none, .mv (.t 1)⟩, ⟨some 10, none, .mv (.t 14)⟩]) (.block 0 (.loop (.seq (.seq (.reg [⟨some 15, none, .mv (.t 10)⟩, ⟨some 16, none, .mv (.t 2)⟩, ⟨some 17, none, .bin .lss (.t 15) (.t 16)⟩]) (.cond (.t 17) .skip (.exit 0))) (.seq (.block 1 (.seq (.reg [⟨some 20, none, .mv (.t 8)⟩, ⟨some 21, none, .mv (.t 0)⟩, ⟨some 22, none, .mv (.t 10)⟩, ⟨some 23, none, .ixa (.t 21) (.t 22) 1⟩, ⟨some 24, none, .ld (.t 23) 1 false⟩, ⟨some 25, none, .bin .add (.t 20) (.t 24)⟩, ⟨some 8, none, .mv (.t 25)⟩]) (.drq [⟨some 26, none, .mv (.t 9)⟩, ⟨some 27, none, .mv (.t 0)⟩, ⟨some 28, none, .mv (.t 10)⟩, ⟨some 29, none, .ixa (.t 27) (.t 28) 1⟩, ⟨some 30, none, .ld (.t 29) 1 false⟩, ⟨some 31, none, .mv (.t 0)⟩, ⟨some 32, none, .mv (.t 10)⟩, ⟨some 33, none, .ixa (.t 31) (.t 32) 1⟩, ⟨some 34, none, .ld (.t 33) 1 false⟩, ⟨some 35, none, .bin .mul (.t 30) (.t 34)⟩, ⟨some 36, none, .bin .add (.t 26) (.t 35)⟩, ⟨some 9, none, .mv (.t 36)⟩]))) (.reg [⟨some 18, none, .mv (.t 10)⟩, ⟨some 19, none, .bin .add (.t 18) (.c (.int .i64 1))⟩, ⟨some 10, none, .mv (.t 19)⟩])))))) (.seq (.reg [⟨some 37, none, .mv (.t 7)⟩, ⟨some 38, none, .mv (.t 9)⟩, ⟨some 39, none, .bin .mul (.t 37) (.t 38)⟩, ⟨some 40, none, .mv (.t 8)⟩, ⟨some 41, none, .mv (.t 8)⟩, ⟨some 42, none, .bin .mul (.t 40) (.t 41)⟩, ⟨some 43, none, .bin .sub (.t 39) (.t 42)⟩, ⟨some 44, none, .mv (.t 7)⟩, ⟨some 45, none, .call fn_spec_frac [.t 43, .t 44]⟩, ⟨none, none, .st (.t 6) (.t 45) 2⟩]) .ret)))))
theorem code_spec_miss : HasCode Try.prog fn_spec_miss mc_spec_miss [.c 6 2 true] 46 := ⟨mixed, Try.f26, _, Try.func26, rfl, by kernel_rfl, by kernel_rfl, rfl, by kernel_rfl, rfl⟩

def mc_spec_plus : MC :=
  .seq (.reg [⟨some 2, none, .box (.t 0)⟩, ⟨some 3, none, .box (.t 1)⟩, ⟨some 4, none, .new [.int .i64 0, .int .i64 0]⟩]) (.seq (.reg [⟨some 5, none, .fa (.t 2) 0⟩, ⟨some 6, none, .ld (.t 5) 1 false⟩, ⟨some 7, none, .fa (.t 3) 1⟩, ⟨some 8, none, .ld (.t 7) 1 false⟩, ⟨some 9, none, .bin .mul (.t 6) (.t 8)⟩, ⟨some 10, none, .fa (.t 3) 0⟩, ⟨some 11, none, .ld (.t 10) 1 false⟩, ⟨some 12, none, .fa (.t 2) 1⟩, ⟨some 13, none, .ld (.t 12) 1 false⟩, ⟨some 14, none, .bin .mul (.t 11) (.t 13)⟩, ⟨some 15, none, .bin .add (.t 9) (.t 14)⟩, ⟨some 16, none, .fa (.t 2) 1⟩, ⟨some 17, none, .ld (.t 16) 1 false⟩, ⟨some 18, none, .fa (.t 3) 1⟩, ⟨some 19, none, .ld (.t 18) 1 false⟩, ⟨some 20, none, .bin .mul (.t 17) (.t 19)⟩, ⟨some 21, none, .call fn_spec_frac [.t 15, .t 20]⟩, ⟨none, none, .st (.t 4) (.t 21) 2⟩]) .ret)
theorem code_spec_plus : HasCode Try.prog fn_spec_plus mc_spec_plus [.c 4 2 true] 22 := ⟨mixed, Try.f27, _, Try.func27, rfl, by kernel_rfl, by kernel_rfl, rfl, by kernel_rfl, rfl⟩

def mc_spec_less : MC :=
  .seq (.reg [⟨some 2, none, .box (.t 0)⟩, ⟨some 3, none, .box (.t 1)⟩, ⟨some 4, none, .mv (.c (.bool false))⟩]) (.seq (.reg [⟨some 5, none, .fa (.t 2) 0⟩, ⟨some 6, none, .ld (.t 5) 1 false⟩, ⟨some 7, none, .fa (.t 3) 1⟩, ⟨some 8, none, .ld (.t 7) 1 false⟩, ⟨some 9, none, .bin .mul (.t 6) (.t 8)⟩, ⟨some 10, none, .fa (.t 3) 0⟩, ⟨some 11, none, .ld (.t 10) 1 false⟩, ⟨some 12, none, .fa (.t 2) 1⟩, ⟨some 13, none, .ld (.t 12) 1 false⟩, ⟨some 14, none, .bin .mul (.t 11) (.t 13)⟩, ⟨some 15, none, .bin .lss (.t 9) (.t 14)⟩, ⟨some 4, none, .mv (.t 15)⟩]) .ret)
theorem code_spec_less : HasCode Try.prog fn_spec_less mc_spec_less [.t 4] 16 := ⟨mixed, Try.f28, _, Try.func28, rfl, by kernel_rfl, by kernel_rfl, rfl, by kernel_rfl, rfl⟩

def mc_impl_validHeights : MC :=
  .seq (.reg [⟨some 2, none, .mv (.c (.bool false))⟩]) (.seq (.seq (.reg [⟨some 5, none, .mv (.t 0)⟩, ⟨some 6, none, .len (.t 5)⟩, ⟨some 7, none, .bin .lss (.t 6) (.c (.int .i64 1))⟩, ⟨some 8, none, .mv (.t 7)⟩, ⟨some 9, some (8, false), .mv (.t 0)⟩, ⟨some 10, some (8, false), .len (.t 9)⟩, ⟨some 11, some (8, false), .bin .gtr (.t 10) (.c (.int .i64 8))⟩, ⟨some 12, none, .pick (.t 8) (.c (.bool true)) (.t 11)⟩]) (.cond (.t 12) (.seq (.reg [⟨some 2, none, .mv (.c (.bool false))⟩]) .ret) .skip)) (.seq (.seq (.reg [⟨some 13, none, .mv (.t 0)⟩, ⟨some 14, none, .len (.t 13)⟩, ⟨some 15, none, .mv (.c (.int .i64 0))⟩]) (.block 0 (.loop (.seq (.reg [⟨some 16, none, .bin .lss (.t 15) (.t 14)⟩]) (.seq (.cond (.t 16) .skip (.exit 0)) (.seq (.block 1 (.seq (.reg [⟨some 17, none, .ixa (.t 13) (.t 15) 1⟩, ⟨some 18, none, .ld (.t 17) 1 false⟩, ⟨some 4, none, .mv (.t 18)⟩]) (.seq (.reg [⟨some 19, none, .mv (.t 4)⟩, ⟨some 20, none, .bin .lss (.t 19) (.c (.int .i64 (-30)))⟩, ⟨some 21, none, .mv (.t 20)⟩, ⟨some 22, some (21, false), .mv (.t 4)⟩, ⟨some 23, some (21, false), .bin .gtr (.t 22) (.c (.int .i64 30))⟩, ⟨some 24, none, .pick (.t 21) (.c (.bool true)) (.t 23)⟩]) (.cond (.t 24) (.seq (.reg [⟨some 2, none, .mv (.c (.bool false))⟩]) .ret) .skip)))) (.reg [⟨some 25, none, .bin .add (.t 15) (.c (.int .i64 1))⟩, ⟨some 15, none, .mv (.t 25)⟩]))))))) (.seq (.reg [⟨some 2, none, .mv (.c (.bool true))⟩]) .ret)))
theorem code_impl_validHeights : HasCode Try.prog fn_impl_validHeights mc_impl_validHeights [.t 2] 26 := ⟨mixed, Try.f29, _, Try.func29, rfl, by kernel_rfl, by kernel_rfl, rfl, by kernel_rfl, rfl⟩

def mc_impl_allCuts_1 : MC :=
  .seq (.reg [⟨some 6, none, .ld (.t 1) 1 false⟩, ⟨some 7, none, .len (.t 6)⟩, ⟨some 8, none, .bin .sub (.t 7) (.c (.int .i64 1))⟩, ⟨some 9, none, .call fn_impl_firstPlaces [.t 8]⟩, ⟨some 10, none, .bin .add (.t 9) (.c (.int .u64 1))⟩, ⟨some 11, none, .mv (.c (.int .u64 0))⟩]) (.block 0 (.loop (.seq (.reg [⟨some 12, none, .bin .lss (.t 11) (.t 10)⟩]) (.seq (.cond (.t 12) .skip (.exit 0)) (.seq (.block 1 (.seq (.reg [⟨some 13, none, .mv (.t 11)⟩, ⟨some 4, none, .mv (.t 13)⟩]) (.seq (.reg [⟨some 14, none, .ld (.t 1) 1 false⟩, ⟨some 15, none, .mv (.t 4)⟩, ⟨some 16, none, .call fn_impl_piecesBehind [.t 14, .t 15]⟩, ⟨some 5, none, .mv (.t 16)⟩]) (.seq (.reg [⟨some 17, none, .mv (.t 5)⟩, ⟨some 18, none, .len (.t 17)⟩, ⟨some 19, none, .ld (.t 2) 1 false⟩, ⟨some 20, none, .bin .leq (.t 18) (.t 19)⟩, ⟨some 21, none, .mv (.t 20)⟩, ⟨some 22, some (21, true), .mv (.t 0)⟩, ⟨some 23, some (21, true), .mv (.t 5)⟩, ⟨some 24, some (21, true), .callv (.t 22) [.t 23]⟩, ⟨some 25, some (21, true), .un .not (.t 24)⟩, ⟨some 26, none, .pick (.t 21) (.t 25) (.c (.bool false))⟩]) (.cond (.t 26) .ret .skip))))) (.reg [⟨some 27, none, .bin .add (.t 11) (.c (.int .u64 1))⟩, ⟨some 11, none, .mv (.t 27)⟩]))))))
theorem code_impl_allCuts_1 : HasCode Try.prog fn_impl_allCuts_1 mc_impl_allCuts_1 [] 28 := ⟨mixed, Try.f30, _, Try.func30, rfl, by kernel_rfl, by kernel_rfl, rfl, by kernel_rfl, rfl⟩

def mc_impl_firstPlaces : MC :=
  .seq (.reg [⟨some 2, none, .mv (.c (.int .u64 0))⟩]) (.seq (.reg [⟨some 3, none, .mv (.t 0)⟩, ⟨some 4, none, .bin .shl (.c (.int .u64 1)) (.t 3)⟩, ⟨some 5, none, .bin .sub (.t 4) (.c (.int .u64 1))⟩, ⟨some 2, none, .mv (.t 5)⟩]) .ret)
theorem code_impl_firstPlaces : HasCode Try.prog fn_impl_firstPlaces mc_impl_firstPlaces [.t 2] 6 := ⟨mixed, Try.f31, _, Try.func31, rfl, by kernel_rfl, by kernel_rfl, rfl, by kernel_rfl, rfl⟩

def mc_impl_piecesBehind : MC :=
  .seq (.reg [⟨some 4, none, .mv (.c .nilSlice)⟩]) (.seq (.reg [⟨some 5, none, .mv (.c .nilSlice)⟩]) (.seq (.reg [⟨some 6, none, .mv (.c (.int .i64 0))⟩]) (.seq (.seq (.reg [⟨some 8, none, .mv (.t 0)⟩, ⟨some 9, none, .len (.t 8)⟩, ⟨some 10, none, .mv (.c (.int .i64 0))⟩]) (.block 0 (.loop (.seq (.reg [⟨some 11, none, .bin .lss (.t 10) (.t 9)⟩]) (.seq (.cond (.t 11) .skip (.exit 0)) (.seq (.block 1 (.seq (.reg [⟨some 12, none, .mv (.t 10)⟩, ⟨some 7, none, .mv (.t 12)⟩]) (.seq (.reg [⟨some 13, none, .mv (.t 1)⟩, ⟨some 14, none, .mv (.t 7)⟩, ⟨some 15, none, .call fn_impl_places_has [.t 13, .t 14]⟩, ⟨some 16, none, .mv (.t 15)⟩, ⟨some 17, some (16, false), .mv (.t 7)⟩, ⟨some 18, some (16, false), .mv (.t 0)⟩, ⟨some 19, some (16, false), .len (.t 18)⟩, ⟨some 20, some (16, false), .bin .sub (.t 19) (.c (.int .i64 1))⟩, ⟨some 21, some (16, false), .bin .eql (.t 17) (.t 20)⟩, ⟨some 22, none, .pick (.t 16) (.c (.bool true)) (.t 21)⟩]) (.cond (.t 22) (.seq (.reg [⟨some 23, none, .mv (.t 5)⟩, ⟨some 24, none, .mv (.t 0)⟩, ⟨some 25, none, .mv (.t 6)⟩, ⟨some 26, none, .mv (.t 7)⟩, ⟨some 27, none, .bin .add (.t 26) (.c (.int .i64 1))⟩, ⟨some 28, none, .sl (.t 24) (some (.t 25)) (some (.t 27)) none 1⟩, ⟨some 29, none, .bsl 1 1 [.nilSlice] [(0, .t 28)]⟩, ⟨some 30, none, .app (.t 23) (.t 29) 1 24⟩, ⟨some 5, none, .mv (.t 30)⟩]) (.reg [⟨some 31, none, .mv (.t 7)⟩, ⟨some 32, none, .bin .add (.t 31) (.c (.int .i64 1))⟩, ⟨some 6, none, .mv (.t 32)⟩])) .skip)))) (.reg [⟨some 33, none, .bin .add (.t 10) (.c (.int .i64 1))⟩, ⟨some 10, none, .mv (.t 33)⟩]))))))) (.seq (.reg [⟨some 34, none, .mv (.t 5)⟩, ⟨some 4, none, .mv (.t 34)⟩]) .ret))))
theorem code_impl_piecesBehind : HasCode Try.prog fn_impl_piecesBehind mc_impl_piecesBehind [.t 4] 35 := ⟨mixed, Try.f32, _, Try.func32, rfl, by kernel_rfl, by kernel_rfl, rfl, by kernel_rfl, rfl⟩

def mc_impl_lowest : MC :=
  .seq (.reg [⟨some 4, none, .new [.int .i64 0, .int .i64 0]⟩]) (.seq (.reg [⟨some 6, none, .mv (.t 0)⟩, ⟨some 7, none, .mv (.t 1)⟩, ⟨some 8, none, .call fn_impl_commonFactor [.t 6, .t 7]⟩, ⟨some 5, none, .mv (.t 8)⟩]) (.seq (.seq (.reg [⟨some 9, none, .mv (.t 1)⟩, ⟨some 10, none, .bin .lss (.t 9) (.c (.int .i64 0))⟩]) (.cond (.t 10) (.reg [⟨some 11, none, .mv (.t 5)⟩, ⟨some 12, none, .un .neg (.t 11)⟩, ⟨some 5, none, .mv (.t 12)⟩]) .skip)) (.seq (.drw [⟨some 13, none, .mv (.t 0)⟩, ⟨some 14, none, .mv (.t 5)⟩, ⟨some 15, none, .bin .quo (.t 13) (.t 14)⟩, ⟨some 16, none, .mv (.t 1)⟩, ⟨some 17, none, .mv (.t 5)⟩, ⟨some 18, none, .bin .quo (.t 16) (.t 17)⟩, ⟨some 19, none, .bld [.int .i64 0, .int .i64 0] [(0, 1, .t 15), (1, 1, .t 18)]⟩, ⟨none, none, .st (.t 4) (.t 19) 2⟩] []) .ret)))
theorem code_impl_lowest : HasCode Try.prog fn_impl_lowest mc_impl_lowest [.c 4 2 true] 20 := ⟨mixed, Try.f33, _, Try.func33, rfl, by kernel_rfl, by kernel_rfl, rfl, by kernel_rfl, rfl⟩

def mc_spec_gcd : MC :=
  .seq (.reg [⟨some 4, none, .mv (.c (.int .i64 0))⟩]) (.seq (.block 0 (.loop (.seq (.seq (.reg [⟨some 6, none, .mv (.t 1)⟩, ⟨some 7, none, .bin .neq (.t 6) (.c (.int .i64 0))⟩]) (.cond (.t 7) .skip (.exit 0))) (.block 1 (.seq (.reg [⟨some 8, none, .mv (.t 0)⟩, ⟨some 9, none, .mv (.t 1)⟩, ⟨some 10, none, .bin .rem (.t 8) (.t 9)⟩, ⟨some 5, none, .mv (.t 10)⟩]) (.seq (.reg [⟨some 11, none, .mv (.t 1)⟩, ⟨some 0, none, .mv (.t 11)⟩]) (.reg [⟨some 12, none, .mv (.t 5)⟩, ⟨some 1, none, .mv (.t 12)⟩]))))))) (.seq (.reg [⟨some 13, none, .mv (.t 0)⟩, ⟨some 14, none, .mv (.t 0)⟩, ⟨some 15, none, .un .neg (.t 14)⟩, ⟨some 16, none, .mnmx true (.t 13) [.t 15]⟩, ⟨some 4, none, .mv (.t 16)⟩]) .ret))
theorem code_spec_gcd : HasCode Try.prog fn_spec_gcd mc_spec_gcd [.t 4] 17 := ⟨mixed, Try.f35, _, Try.func35, rfl, by kernel_rfl, by kernel_rfl, rfl, by kernel_rfl, rfl⟩

def mc_impl_places_has : MC :=
  .seq (.reg [⟨some 4, none, .mv (.c (.bool false))⟩]) (.seq (.reg [⟨some 5, none, .mv (.t 0)⟩, ⟨some 6, none, .mv (.t 1)⟩, ⟨some 7, none, .bin .shr (.t 5) (.t 6)⟩, ⟨some 8, none, .bin .and (.t 7) (.c (.int .u64 1))⟩, ⟨some 9, none, .bin .eql (.t 8) (.c (.int .u64 1))⟩, ⟨some 4, none, .mv (.t 9)⟩]) .ret)
theorem code_impl_places_has : HasCode Try.prog fn_impl_places_has mc_impl_places_has [.t 4] 10 := ⟨mixed, Try.f36, _, Try.func36, rfl, by kernel_rfl, by kernel_rfl, rfl, by kernel_rfl, rfl⟩

def mc_impl_commonFactor : MC :=
  .seq (.reg [⟨some 4, none, .mv (.c (.int .i64 0))⟩]) (.seq (.block 0 (.loop (.seq (.seq (.reg [⟨some 5, none, .mv (.t 1)⟩, ⟨some 6, none, .bin .neq (.t 5) (.c (.int .i64 0))⟩]) (.cond (.t 6) .skip (.exit 0))) (.block 1 (.drq [⟨some 7, none, .mv (.t 1)⟩, ⟨some 8, none, .mv (.t 0)⟩, ⟨some 9, none, .mv (.t 1)⟩, ⟨some 10, none, .bin .rem (.t 8) (.t 9)⟩, ⟨some 0, none, .mv (.t 7)⟩, ⟨some 1, none, .mv (.t 10)⟩]))))) (.seq (.reg [⟨some 11, none, .mv (.t 0)⟩, ⟨some 12, none, .call fn_impl_apart [.t 11, .c (.int .i64 0)]⟩, ⟨some 4, none, .mv (.t 12)⟩]) .ret))
theorem code_impl_commonFactor : HasCode Try.prog fn_impl_commonFactor mc_impl_commonFactor [.t 4] 13 := ⟨mixed, Try.f37, _, Try.func37, rfl, by kernel_rfl, by kernel_rfl, rfl, by kernel_rfl, rfl⟩

def mc_impl_apart : MC :=
  .seq (.reg [⟨some 4, none, .mv (.c (.int .i64 0))⟩]) (.seq (.reg [⟨some 5, none, .mv (.t 0)⟩, ⟨some 6, none, .mv (.t 1)⟩, ⟨some 7, none, .bin .sub (.t 5) (.t 6)⟩, ⟨some 8, none, .mv (.t 1)⟩, ⟨some 9, none, .mv (.t 0)⟩, ⟨some 10, none, .bin .sub (.t 8) (.t 9)⟩, ⟨some 11, none, .mnmx true (.t 7) [.t 10]⟩, ⟨some 4, none, .mv (.t 11)⟩]) .ret)
theorem code_impl_apart : HasCode Try.prog fn_impl_apart mc_impl_apart [.t 4] 12 := ⟨mixed, Try.f38, _, Try.func38, rfl, by kernel_rfl, by kernel_rfl, rfl, by kernel_rfl, rfl⟩

def mc_impl_Frac_compare : MC :=
  .seq (.reg [⟨some 2, none, .box (.t 0)⟩, ⟨some 3, none, .box (.t 1)⟩, ⟨some 4, none, .mv (.c (.int .i64 0))⟩]) (.seq (.reg [⟨some 5, none, .fa (.t 2) 0⟩, ⟨some 6, none, .ld (.t 5) 1 false⟩, ⟨some 7, none, .fa (.t 3) 1⟩, ⟨some 8, none, .ld (.t 7) 1 false⟩, ⟨some 9, none, .bin .mul (.t 6) (.t 8)⟩, ⟨some 10, none, .fa (.t 3) 0⟩, ⟨some 11, none, .ld (.t 10) 1 false⟩, ⟨some 12, none, .fa (.t 2) 1⟩, ⟨some 13, none, .ld (.t 12) 1 false⟩, ⟨some 14, none, .bin .mul (.t 11) (.t 13)⟩, ⟨some 15, none, .call fn_cmp_Compare_int [.t 9, .t 14]⟩, ⟨some 4, none, .mv (.t 15)⟩]) .ret)
theorem code_impl_Frac_compare : HasCode Try.prog fn_impl_Frac_compare mc_impl_Frac_compare [.t 4] 16 := ⟨mixed, Try.f54, _, Try.func54, rfl, by kernel_rfl, by kernel_rfl, rfl, by kernel_rfl, rfl⟩

def mc_cmp_Compare_int : MC :=
  .seq (.reg [⟨some 4, none, .mv (.c (.int .i64 0))⟩]) (.seq (.reg [⟨some 7, none, .mv (.t 0)⟩, ⟨some 8, none, .call fn_cmp_isNaN_int [.t 7]⟩, ⟨some 5, none, .mv (.t 8)⟩]) (.seq (.reg [⟨some 9, none, .mv (.t 1)⟩, ⟨some 10, none, .call fn_cmp_isNaN_int [.t 9]⟩, ⟨some 6, none, .mv (.t 10)⟩]) (.seq (.seq (.reg [⟨some 11, none, .mv (.t 5)⟩]) (.cond (.t 11) (.seq (.seq (.reg [⟨some 12, none, .mv (.t 6)⟩]) (.cond (.t 12) (.seq (.reg [⟨some 4, none, .mv (.c (.int .i64 0))⟩]) .ret) .skip)) (.seq (.reg [⟨some 4, none, .mv (.c (.int .i64 (-1)))⟩]) .ret)) .skip)) (.seq (.seq (.reg [⟨some 13, none, .mv (.t 6)⟩]) (.cond (.t 13) (.seq (.reg [⟨some 4, none, .mv (.c (.int .i64 1))⟩]) .ret) .skip)) (.seq (.seq (.reg [⟨some 14, none, .mv (.t 0)⟩, ⟨some 15, none, .mv (.t 1)⟩, ⟨some 16, none, .bin .lss (.t 14) (.t 15)⟩]) (.cond (.t 16) (.seq (.reg [⟨some 4, none, .mv (.c (.int .i64 (-1)))⟩]) .ret) .skip)) (.seq (.seq (.reg [⟨some 17, none, .mv (.t 0)⟩, ⟨some 18, none, .mv (.t 1)⟩, ⟨some 19, none, .bin .gtr (.t 17) (.t 18)⟩]) (.cond (.t 19) (.seq (.reg [⟨some 4, none, .mv (.c (.int .i64 1))⟩]) .ret) .skip)) (.seq (.reg [⟨some 4, none, .mv (.c (.int .i64 0))⟩]) .ret)))))))
theorem code_cmp_Compare_int : HasCode Try.prog fn_cmp_Compare_int mc_cmp_Compare_int [.t 4] 20 := ⟨mixed, Try.f56, _, Try.func56, rfl, by kernel_rfl, by kernel_rfl, rfl, by kernel_rfl, rfl⟩

def mc_cmp_isNaN_int : MC :=
  .seq (.reg [⟨some 2, none, .mv (.c (.bool false))⟩]) (.seq (.reg [⟨some 3, none, .mv (.t 0)⟩, ⟨some 4, none, .mv (.t 0)⟩, ⟨some 5, none, .bin .neq (.t 3) (.t 4)⟩, ⟨some 2, none, .mv (.t 5)⟩]) .ret)
theorem code_cmp_isNaN_int : HasCode Try.prog fn_cmp_isNaN_int mc_cmp_isNaN_int [.t 2] 6 := ⟨mixed, Try.f57, _, Try.func57, rfl, by kernel_rfl, by kernel_rfl, rfl, by kernel_rfl, rfl⟩

end Go.Rx.Try
