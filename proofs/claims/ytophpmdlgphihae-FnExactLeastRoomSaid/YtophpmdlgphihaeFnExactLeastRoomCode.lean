/-
  The code of each function of the program, taken up. Made by a program.
-/
import Derived.Test.YtophpmdlgphihaeProg
import Derived.Test.YtophpmdlgphihaeRxI
import Derived.KernelRfl
namespace Go.Rx.Try
open Go.Proofs
set_option maxRecDepth 100000

abbrev fn_laws_FnExactLeastRoom : FuncId := 3
abbrev fn_laws_FnLeastRoom : FuncId := 4
abbrev fn_spec_LeastRoom : FuncId := 5
abbrev fn_laws_toIntS : FuncId := 6
abbrev fn_impl_LeastRoom : FuncId := 7
abbrev fn_laws_eqIntS : FuncId := 8
abbrev fn_spec_DrawLeastRoom : FuncId := 9
abbrev fn_impl_RoomTried : FuncId := 10
abbrev fn_laws_greatest : FuncId := 11
abbrev fn_laws_negated : FuncId := 12
abbrev fn_spec_validSteps : FuncId := 13
abbrev fn_spec_inRange : FuncId := 14
abbrev fn_spec_roomNeeded : FuncId := 15
abbrev fn_impl_validPieces : FuncId := 16
abbrev fn_impl_FewestPieces : FuncId := 17
abbrev fn_spec_newReader : FuncId := 18
abbrev fn_spec_stepList : FuncId := 19
abbrev fn_spec_reader_one : FuncId := 20
abbrev fn_impl_roomOf : FuncId := 21
abbrev fn_impl_allCuts : FuncId := 22
abbrev fn_spec_FewestPieces : FuncId := 23
abbrev fn_impl_validHeights : FuncId := 24
abbrev fn_spec_reader_pick : FuncId := 25
abbrev fn_slices_Max_ints : FuncId := 26
abbrev fn_slices_Min_ints : FuncId := 27
abbrev fn_impl_allCuts_1 : FuncId := 28
abbrev fn_impl_firstPlaces : FuncId := 29
abbrev fn_impl_piecesBehind : FuncId := 30
abbrev fn_impl_places_has : FuncId := 31
abbrev fn_runtime_boundsError_Error : FuncId := 32
abbrev fn_runtime_boundsError_RuntimeError : FuncId := 33
abbrev fn_runtime_errorString_Error : FuncId := 34
abbrev fn_runtime_errorString_RuntimeError : FuncId := 35
abbrev fn_runtime_plainError_Error : FuncId := 36
abbrev fn_runtime_plainError_RuntimeError : FuncId := 37
abbrev fn_runtime_errorAddressString_Error : FuncId := 38
abbrev fn_runtime_errorAddressString_RuntimeError : FuncId := 39
abbrev fn_runtime_TypeAssertionError_Error : FuncId := 40
abbrev fn_runtime_TypeAssertionError_RuntimeError : FuncId := 41
abbrev fn_runtime_PanicNilError_Error : FuncId := 42
abbrev fn_runtime_PanicNilError_RuntimeError : FuncId := 43
abbrev fn_internal_abi_Type_Align : FuncId := 44
abbrev fn_internal_runtime_maps_unhashableTypeError_Error : FuncId := 45
abbrev fn_internal_runtime_maps_unhashableTypeError_RuntimeError : FuncId := 46
abbrev fn_internal_abi_Kind_String : FuncId := 47
abbrev ty_abi_BoundsErrorCode : TypeId := 6
abbrev ty_maps_unhashableTypeError : TypeId := 19
abbrev ty_spec_reader : TypeId := 43
abbrev ty_impl_places : TypeId := 47
abbrev ty_abi_TFlag : TypeId := 59
abbrev ty_abi_Kind : TypeId := 60
abbrev ty_abi_NameOff : TypeId := 63
abbrev ty_abi_TypeOff : TypeId := 64
abbrev ty_abi_Type : TypeId := 66
theorem mixed : Try.prog.follows .mixedOrders = true := by kernel_rfl

def mc_laws_FnExactLeastRoom : MC :=
  .seq (.reg [⟨some 4, none, .mv (.c (.bool false))⟩]) (.seq (.seq (.reg [⟨some 8, none, .mv (.t 0)⟩, ⟨some 9, none, .len (.t 8)⟩, ⟨some 10, none, .bin .gtr (.t 9) (.c (.int .i64 1048576))⟩]) (.cond (.t 10) (.seq (.reg [⟨some 4, none, .mv (.c (.bool true))⟩]) .ret) .skip)) (.seq (.reg [⟨some 11, none, .mv (.t 0)⟩, ⟨some 12, none, .call fn_laws_toIntS [.t 11]⟩, ⟨some 13, none, .mv (.t 1)⟩, ⟨some 14, none, .call fn_spec_LeastRoom [.t 12, .t 13]⟩, ⟨some 5, none, .mv (.t 14)⟩]) (.seq (.reg [⟨some 15, none, .mv (.t 0)⟩, ⟨some 16, none, .call fn_laws_toIntS [.t 15]⟩, ⟨some 6, none, .mv (.t 16)⟩]) (.seq (.reg [⟨some 17, none, .mv (.t 6)⟩, ⟨some 18, none, .mv (.t 1)⟩, ⟨some 19, none, .call fn_impl_LeastRoom [.t 17, .t 18]⟩, ⟨some 7, none, .mv (.t 19)⟩]) (.seq (.seq (.reg [⟨some 20, none, .mv (.t 7)⟩, ⟨some 21, none, .mv (.t 5)⟩, ⟨some 22, none, .bin .neq (.t 20) (.t 21)⟩]) (.cond (.t 22) (.seq (.reg [⟨some 4, none, .mv (.c (.bool false))⟩]) .ret) .skip)) (.seq (.seq (.reg [⟨some 23, none, .mv (.t 6)⟩, ⟨some 24, none, .mv (.t 0)⟩, ⟨some 25, none, .call fn_laws_toIntS [.t 24]⟩, ⟨some 26, none, .call fn_laws_eqIntS [.t 23, .t 25]⟩, ⟨some 27, none, .un .not (.t 26)⟩]) (.cond (.t 27) (.seq (.reg [⟨some 4, none, .mv (.c (.bool false))⟩]) .ret) .skip)) (.seq (.reg [⟨some 4, none, .mv (.c (.bool true))⟩]) .ret)))))))
theorem code_laws_FnExactLeastRoom : HasCode Try.prog fn_laws_FnExactLeastRoom mc_laws_FnExactLeastRoom [.t 4] 28 := ⟨mixed, Try.f3, _, Try.func3, rfl, by kernel_rfl, by kernel_rfl, rfl, by kernel_rfl, rfl⟩

def mc_spec_LeastRoom : MC :=
  .seq (.reg [⟨some 4, none, .mv (.c (.int .i64 0))⟩]) (.seq (.seq (.reg [⟨some 5, none, .mv (.t 0)⟩, ⟨some 6, none, .call fn_spec_validSteps [.t 5]⟩, ⟨some 7, none, .un .not (.t 6)⟩, ⟨some 8, none, .mv (.t 7)⟩, ⟨some 9, some (8, false), .mv (.t 1)⟩, ⟨some 10, some (8, false), .call fn_spec_inRange [.t 9, .c (.int .i64 1), .c (.int .i64 8)]⟩, ⟨some 11, some (8, false), .un .not (.t 10)⟩, ⟨some 12, none, .pick (.t 8) (.c (.bool true)) (.t 11)⟩]) (.cond (.t 12) (.seq (.reg [⟨some 4, none, .mv (.c (.int .i64 (-1)))⟩]) .ret) .skip)) (.seq (.reg [⟨some 13, none, .mv (.t 0)⟩, ⟨some 14, none, .mv (.t 1)⟩, ⟨some 15, none, .call fn_spec_roomNeeded [.t 13, .t 14]⟩, ⟨some 4, none, .mv (.t 15)⟩]) .ret))
theorem code_spec_LeastRoom : HasCode Try.prog fn_spec_LeastRoom mc_spec_LeastRoom [.t 4] 16 := ⟨mixed, Try.f5, _, Try.func5, rfl, by kernel_rfl, by kernel_rfl, rfl, by kernel_rfl, rfl⟩

def mc_laws_toIntS : MC :=
  .seq (.reg [⟨some 2, none, .mv (.c .nilSlice)⟩]) (.seq (.reg [⟨some 5, none, .mv (.t 0)⟩, ⟨some 6, none, .len (.t 5)⟩, ⟨some 7, none, .mks (.t 6) (.t 6) [.int .i64 0] 1 8⟩, ⟨some 3, none, .mv (.t 7)⟩]) (.seq (.seq (.reg [⟨some 4, none, .mv (.c (.int .i64 0))⟩]) (.block 0 (.loop (.seq (.seq (.reg [⟨some 8, none, .mv (.t 4)⟩, ⟨some 9, none, .mv (.t 0)⟩, ⟨some 10, none, .len (.t 9)⟩, ⟨some 11, none, .bin .lss (.t 8) (.t 10)⟩]) (.cond (.t 11) .skip (.exit 0))) (.seq (.block 1 (.reg [⟨some 14, none, .mv (.t 3)⟩, ⟨some 15, none, .mv (.t 4)⟩, ⟨some 16, none, .mv (.t 0)⟩, ⟨some 17, none, .mv (.t 4)⟩, ⟨some 18, none, .ixa (.t 16) (.t 17) 1⟩, ⟨some 19, none, .ld (.t 18) 1 false⟩, ⟨some 20, none, .ixa (.t 14) (.t 15) 1⟩, ⟨none, none, .st (.t 20) (.t 19) 1⟩])) (.reg [⟨some 12, none, .mv (.t 4)⟩, ⟨some 13, none, .bin .add (.t 12) (.c (.int .i64 1))⟩, ⟨some 4, none, .mv (.t 13)⟩])))))) (.seq (.reg [⟨some 21, none, .mv (.t 3)⟩, ⟨some 2, none, .mv (.t 21)⟩]) .ret)))
theorem code_laws_toIntS : HasCode Try.prog fn_laws_toIntS mc_laws_toIntS [.t 2] 22 := ⟨mixed, Try.f6, _, Try.func6, rfl, by kernel_rfl, by kernel_rfl, rfl, by kernel_rfl, rfl⟩

def mc_impl_LeastRoom : MC :=
  .seq (.reg [⟨some 4, none, .mv (.c (.int .i64 0))⟩]) (.seq (.seq (.reg [⟨some 6, none, .mv (.t 0)⟩, ⟨some 7, none, .mv (.t 1)⟩, ⟨some 8, none, .call fn_impl_validPieces [.t 6, .t 7]⟩, ⟨some 9, none, .un .not (.t 8)⟩]) (.cond (.t 9) (.seq (.reg [⟨some 4, none, .mv (.c (.int .i64 (-1)))⟩]) .ret) .skip)) (.seq (.reg [⟨some 5, none, .mv (.c (.int .i64 0))⟩]) (.seq (.block 0 (.loop (.seq (.seq (.reg [⟨some 10, none, .mv (.t 0)⟩, ⟨some 11, none, .mv (.t 5)⟩, ⟨some 12, none, .call fn_impl_FewestPieces [.t 10, .t 11]⟩, ⟨some 13, none, .len (.t 12)⟩, ⟨some 14, none, .mv (.t 1)⟩, ⟨some 15, none, .bin .gtr (.t 13) (.t 14)⟩]) (.cond (.t 15) .skip (.exit 0))) (.block 1 (.reg [⟨some 16, none, .mv (.t 5)⟩, ⟨some 17, none, .bin .add (.t 16) (.c (.int .i64 1))⟩, ⟨some 5, none, .mv (.t 17)⟩]))))) (.seq (.reg [⟨some 18, none, .mv (.t 5)⟩, ⟨some 4, none, .mv (.t 18)⟩]) .ret))))
theorem code_impl_LeastRoom : HasCode Try.prog fn_impl_LeastRoom mc_impl_LeastRoom [.t 4] 19 := ⟨mixed, Try.f7, _, Try.func7, rfl, by kernel_rfl, by kernel_rfl, rfl, by kernel_rfl, rfl⟩

def mc_laws_eqIntS : MC :=
  .seq (.reg [⟨some 4, none, .mv (.c (.bool false))⟩]) (.seq (.seq (.reg [⟨some 6, none, .mv (.t 0)⟩, ⟨some 7, none, .len (.t 6)⟩, ⟨some 8, none, .mv (.t 1)⟩, ⟨some 9, none, .len (.t 8)⟩, ⟨some 10, none, .bin .neq (.t 7) (.t 9)⟩]) (.cond (.t 10) (.seq (.reg [⟨some 4, none, .mv (.c (.bool false))⟩]) .ret) .skip)) (.seq (.seq (.reg [⟨some 5, none, .mv (.c (.int .i64 0))⟩]) (.block 0 (.loop (.seq (.seq (.reg [⟨some 11, none, .mv (.t 5)⟩, ⟨some 12, none, .mv (.t 0)⟩, ⟨some 13, none, .len (.t 12)⟩, ⟨some 14, none, .bin .lss (.t 11) (.t 13)⟩]) (.cond (.t 14) .skip (.exit 0))) (.seq (.block 1 (.seq (.drq [⟨some 17, none, .mv (.t 0)⟩, ⟨some 18, none, .mv (.t 5)⟩, ⟨some 19, none, .ixa (.t 17) (.t 18) 1⟩, ⟨some 20, none, .ld (.t 19) 1 false⟩, ⟨some 21, none, .mv (.t 1)⟩, ⟨some 22, none, .mv (.t 5)⟩, ⟨some 23, none, .ixa (.t 21) (.t 22) 1⟩, ⟨some 24, none, .ld (.t 23) 1 false⟩, ⟨some 25, none, .bin .neq (.t 20) (.t 24)⟩]) (.cond (.t 25) (.seq (.reg [⟨some 4, none, .mv (.c (.bool false))⟩]) .ret) .skip))) (.reg [⟨some 15, none, .mv (.t 5)⟩, ⟨some 16, none, .bin .add (.t 15) (.c (.int .i64 1))⟩, ⟨some 5, none, .mv (.t 16)⟩])))))) (.seq (.reg [⟨some 4, none, .mv (.c (.bool true))⟩]) .ret)))
theorem code_laws_eqIntS : HasCode Try.prog fn_laws_eqIntS mc_laws_eqIntS [.t 4] 26 := ⟨mixed, Try.f8, _, Try.func8, rfl, by kernel_rfl, by kernel_rfl, rfl, by kernel_rfl, rfl⟩

def mc_spec_validSteps : MC :=
  .seq (.reg [⟨some 2, none, .mv (.c (.bool false))⟩]) (.seq (.seq (.reg [⟨some 3, none, .mv (.c (.int .i64 0))⟩]) (.block 0 (.loop (.seq (.seq (.reg [⟨some 4, none, .mv (.t 3)⟩, ⟨some 5, none, .mv (.t 0)⟩, ⟨some 6, none, .len (.t 5)⟩, ⟨some 7, none, .bin .lss (.t 4) (.t 6)⟩]) (.cond (.t 7) .skip (.exit 0))) (.seq (.block 1 (.seq (.reg [⟨some 10, none, .mv (.t 0)⟩, ⟨some 11, none, .mv (.t 3)⟩, ⟨some 12, none, .ixa (.t 10) (.t 11) 1⟩, ⟨some 13, none, .ld (.t 12) 1 false⟩, ⟨some 14, none, .call fn_spec_inRange [.t 13, .c (.int .i64 (-30)), .c (.int .i64 30)]⟩, ⟨some 15, none, .un .not (.t 14)⟩]) (.cond (.t 15) (.seq (.reg [⟨some 2, none, .mv (.c (.bool false))⟩]) .ret) .skip))) (.reg [⟨some 8, none, .mv (.t 3)⟩, ⟨some 9, none, .bin .add (.t 8) (.c (.int .i64 1))⟩, ⟨some 3, none, .mv (.t 9)⟩])))))) (.seq (.reg [⟨some 16, none, .mv (.t 0)⟩, ⟨some 17, none, .len (.t 16)⟩, ⟨some 18, none, .call fn_spec_inRange [.t 17, .c (.int .i64 1), .c (.int .i64 8)]⟩, ⟨some 2, none, .mv (.t 18)⟩]) .ret))
theorem code_spec_validSteps : HasCode Try.prog fn_spec_validSteps mc_spec_validSteps [.t 2] 19 := ⟨mixed, Try.f13, _, Try.func13, rfl, by kernel_rfl, by kernel_rfl, rfl, by kernel_rfl, rfl⟩

def mc_spec_inRange : MC :=
  .seq (.reg [⟨some 6, none, .mv (.c (.bool false))⟩]) (.seq (.reg [⟨some 7, none, .mv (.t 1)⟩, ⟨some 8, none, .mv (.t 0)⟩, ⟨some 9, none, .bin .leq (.t 7) (.t 8)⟩, ⟨some 10, none, .mv (.t 9)⟩, ⟨some 11, some (10, true), .mv (.t 0)⟩, ⟨some 12, some (10, true), .mv (.t 2)⟩, ⟨some 13, some (10, true), .bin .leq (.t 11) (.t 12)⟩, ⟨some 14, none, .pick (.t 10) (.t 13) (.c (.bool false))⟩, ⟨some 6, none, .mv (.t 14)⟩]) .ret)
theorem code_spec_inRange : HasCode Try.prog fn_spec_inRange mc_spec_inRange [.t 6] 15 := ⟨mixed, Try.f14, _, Try.func14, rfl, by kernel_rfl, by kernel_rfl, rfl, by kernel_rfl, rfl⟩

def mc_spec_roomNeeded : MC :=
  .seq (.reg [⟨some 4, none, .mv (.c (.int .i64 0))⟩]) (.seq (.reg [⟨some 5, none, .mv (.c (.int .i64 0))⟩]) (.block 0 (.loop (.seq (.block 1 (.seq (.reg [⟨some 8, none, .mv (.t 0)⟩, ⟨some 9, none, .mv (.t 5)⟩, ⟨some 10, none, .call fn_spec_FewestPieces [.t 8, .t 9]⟩, ⟨some 11, none, .len (.t 10)⟩, ⟨some 12, none, .mv (.t 1)⟩, ⟨some 13, none, .bin .leq (.t 11) (.t 12)⟩]) (.cond (.t 13) (.seq (.reg [⟨some 14, none, .mv (.t 5)⟩, ⟨some 4, none, .mv (.t 14)⟩]) .ret) .skip))) (.reg [⟨some 6, none, .mv (.t 5)⟩, ⟨some 7, none, .bin .add (.t 6) (.c (.int .i64 1))⟩, ⟨some 5, none, .mv (.t 7)⟩])))))
theorem code_spec_roomNeeded : HasCode Try.prog fn_spec_roomNeeded mc_spec_roomNeeded [.t 4] 15 := ⟨mixed, Try.f15, _, Try.func15, rfl, by kernel_rfl, by kernel_rfl, rfl, by kernel_rfl, rfl⟩

def mc_impl_validPieces : MC :=
  .seq (.reg [⟨some 4, none, .mv (.c (.bool false))⟩]) (.seq (.reg [⟨some 5, none, .mv (.t 0)⟩, ⟨some 6, none, .call fn_impl_validHeights [.t 5]⟩, ⟨some 7, none, .mv (.t 6)⟩, ⟨some 8, some (7, true), .mv (.t 1)⟩, ⟨some 9, some (7, true), .bin .geq (.t 8) (.c (.int .i64 1))⟩, ⟨some 10, none, .pick (.t 7) (.t 9) (.c (.bool false))⟩, ⟨some 11, none, .mv (.t 10)⟩, ⟨some 12, some (11, true), .mv (.t 1)⟩, ⟨some 13, some (11, true), .bin .leq (.t 12) (.c (.int .i64 8))⟩, ⟨some 14, none, .pick (.t 11) (.t 13) (.c (.bool false))⟩, ⟨some 4, none, .mv (.t 14)⟩]) .ret)
theorem code_impl_validPieces : HasCode Try.prog fn_impl_validPieces mc_impl_validPieces [.t 4] 15 := ⟨mixed, Try.f16, _, Try.func16, rfl, by kernel_rfl, by kernel_rfl, rfl, by kernel_rfl, rfl⟩

def mc_impl_FewestPieces : MC :=
  .seq (.reg [⟨some 4, none, .mv (.c .nilSlice)⟩]) (.seq (.seq (.reg [⟨some 8, none, .mv (.t 0)⟩, ⟨some 9, none, .call fn_impl_validHeights [.t 8]⟩, ⟨some 10, none, .un .not (.t 9)⟩, ⟨some 11, none, .mv (.t 10)⟩, ⟨some 12, some (11, false), .mv (.t 1)⟩, ⟨some 13, some (11, false), .bin .lss (.t 12) (.c (.int .i64 0))⟩, ⟨some 14, none, .pick (.t 11) (.c (.bool true)) (.t 13)⟩, ⟨some 15, none, .mv (.t 14)⟩, ⟨some 16, some (15, false), .mv (.t 1)⟩, ⟨some 17, some (15, false), .bin .gtr (.t 16) (.c (.int .i64 60))⟩, ⟨some 18, none, .pick (.t 15) (.c (.bool true)) (.t 17)⟩]) (.cond (.t 18) (.seq (.reg [⟨some 4, none, .mv (.c .nilSlice)⟩]) .ret) .skip)) (.seq (.reg [⟨some 19, none, .bsl 1 1 [.int .i64 0] [(0, .c (.int .i64 0))]⟩, ⟨some 5, none, .mv (.t 19)⟩]) (.seq (.reg [⟨some 6, none, .mv (.c (.int .i64 0))⟩]) (.seq (.seq (.reg [⟨some 20, none, .mv (.t 0)⟩, ⟨some 21, none, .len (.t 20)⟩, ⟨some 22, none, .mv (.c (.int .i64 0))⟩]) (.block 0 (.loop (.seq (.reg [⟨some 23, none, .bin .lss (.t 22) (.t 21)⟩]) (.seq (.cond (.t 23) .skip (.exit 0)) (.seq (.block 1 (.seq (.reg [⟨some 24, none, .mv (.t 22)⟩, ⟨some 7, none, .mv (.t 24)⟩]) (.seq (.reg [⟨some 25, none, .mv (.t 0)⟩, ⟨some 26, none, .mv (.t 6)⟩, ⟨some 27, none, .mv (.t 7)⟩, ⟨some 28, none, .bin .add (.t 27) (.c (.int .i64 1))⟩, ⟨some 29, none, .sl (.t 25) (some (.t 26)) (some (.t 28)) none 1⟩, ⟨some 30, none, .call fn_impl_roomOf [.t 29]⟩, ⟨some 31, none, .mv (.t 1)⟩, ⟨some 32, none, .bin .gtr (.t 30) (.t 31)⟩]) (.cond (.t 32) (.seq (.reg [⟨some 33, none, .mv (.t 7)⟩, ⟨some 6, none, .mv (.t 33)⟩]) (.reg [⟨some 34, none, .mv (.t 5)⟩, ⟨some 35, none, .mv (.t 6)⟩, ⟨some 36, none, .bsl 1 1 [.int .i64 0] [(0, .t 35)]⟩, ⟨some 37, none, .app (.t 34) (.t 36) 1 8⟩, ⟨some 5, none, .mv (.t 37)⟩])) .skip)))) (.reg [⟨some 38, none, .bin .add (.t 22) (.c (.int .i64 1))⟩, ⟨some 22, none, .mv (.t 38)⟩]))))))) (.seq (.reg [⟨some 39, none, .mv (.t 5)⟩, ⟨some 4, none, .mv (.t 39)⟩]) .ret)))))
theorem code_impl_FewestPieces : HasCode Try.prog fn_impl_FewestPieces mc_impl_FewestPieces [.t 4] 40 := ⟨mixed, Try.f17, _, Try.func17, rfl, by kernel_rfl, by kernel_rfl, rfl, by kernel_rfl, rfl⟩

def mc_impl_roomOf : MC :=
  .seq (.reg [⟨some 2, none, .mv (.c (.int .i64 0))⟩]) (.seq (.reg [⟨some 3, none, .mv (.t 0)⟩, ⟨some 4, none, .call fn_slices_Max_ints [.t 3]⟩, ⟨some 5, none, .mv (.t 0)⟩, ⟨some 6, none, .call fn_slices_Min_ints [.t 5]⟩, ⟨some 7, none, .bin .sub (.t 4) (.t 6)⟩, ⟨some 2, none, .mv (.t 7)⟩]) .ret)
theorem code_impl_roomOf : HasCode Try.prog fn_impl_roomOf mc_impl_roomOf [.t 2] 8 := ⟨mixed, Try.f21, _, Try.func21, rfl, by kernel_rfl, by kernel_rfl, rfl, by kernel_rfl, rfl⟩

def mc_spec_FewestPieces : MC :=
  .seq (.reg [⟨some 4, none, .mv (.c .nilSlice)⟩]) (.seq (.seq (.reg [⟨some 9, none, .mv (.t 0)⟩, ⟨some 10, none, .call fn_spec_validSteps [.t 9]⟩, ⟨some 11, none, .un .not (.t 10)⟩, ⟨some 12, none, .mv (.t 11)⟩, ⟨some 13, some (12, false), .mv (.t 1)⟩, ⟨some 14, some (12, false), .call fn_spec_inRange [.t 13, .c (.int .i64 0), .c (.int .i64 60)]⟩, ⟨some 15, some (12, false), .un .not (.t 14)⟩, ⟨some 16, none, .pick (.t 12) (.c (.bool true)) (.t 15)⟩]) (.cond (.t 16) (.seq (.reg [⟨some 4, none, .mv (.c .nilSlice)⟩]) .ret) .skip)) (.seq (.reg [⟨some 17, none, .bsl 0 1 [.int .i64 0] []⟩, ⟨some 5, none, .mv (.t 17)⟩]) (.seq (.reg [⟨some 6, none, .mv (.c (.int .i64 0))⟩]) (.seq (.reg [⟨some 7, none, .mv (.c (.int .i64 0))⟩]) (.seq (.seq (.reg [⟨some 8, none, .mv (.c (.int .i64 0))⟩]) (.block 0 (.loop (.seq (.seq (.reg [⟨some 18, none, .mv (.t 8)⟩, ⟨some 19, none, .mv (.t 0)⟩, ⟨some 20, none, .len (.t 19)⟩, ⟨some 21, none, .bin .lss (.t 18) (.t 20)⟩]) (.cond (.t 21) .skip (.exit 0))) (.seq (.block 1 (.seq (.drq [⟨some 24, none, .mv (.t 8)⟩, ⟨some 25, none, .bin .gtr (.t 24) (.c (.int .i64 0))⟩, ⟨some 26, none, .mv (.t 25)⟩, ⟨some 27, some (26, true), .mv (.t 7)⟩, ⟨some 28, some (26, true), .mv (.t 0)⟩, ⟨some 29, some (26, true), .mv (.t 8)⟩, ⟨some 30, some (26, true), .ixa (.t 28) (.t 29) 1⟩, ⟨some 31, some (26, true), .ld (.t 30) 1 false⟩, ⟨some 32, some (26, true), .mnmx true (.t 27) [.t 31]⟩, ⟨some 33, some (26, true), .mv (.t 6)⟩, ⟨some 34, some (26, true), .mv (.t 0)⟩, ⟨some 35, some (26, true), .mv (.t 8)⟩, ⟨some 36, some (26, true), .ixa (.t 34) (.t 35) 1⟩, ⟨some 37, some (26, true), .ld (.t 36) 1 false⟩, ⟨some 38, some (26, true), .mnmx false (.t 33) [.t 37]⟩, ⟨some 39, some (26, true), .bin .sub (.t 32) (.t 38)⟩, ⟨some 40, some (26, true), .mv (.t 1)⟩, ⟨some 41, some (26, true), .bin .leq (.t 39) (.t 40)⟩, ⟨some 42, none, .pick (.t 26) (.t 41) (.c (.bool false))⟩]) (.cond (.t 42) (.seq (.reg [⟨some 43, none, .mv (.t 6)⟩, ⟨some 44, none, .mv (.t 0)⟩, ⟨some 45, none, .mv (.t 8)⟩, ⟨some 46, none, .ixa (.t 44) (.t 45) 1⟩, ⟨some 47, none, .ld (.t 46) 1 false⟩, ⟨some 48, none, .mnmx false (.t 43) [.t 47]⟩, ⟨some 6, none, .mv (.t 48)⟩]) (.reg [⟨some 49, none, .mv (.t 7)⟩, ⟨some 50, none, .mv (.t 0)⟩, ⟨some 51, none, .mv (.t 8)⟩, ⟨some 52, none, .ixa (.t 50) (.t 51) 1⟩, ⟨some 53, none, .ld (.t 52) 1 false⟩, ⟨some 54, none, .mnmx true (.t 49) [.t 53]⟩, ⟨some 7, none, .mv (.t 54)⟩])) (.seq (.reg [⟨some 55, none, .mv (.t 5)⟩, ⟨some 56, none, .mv (.t 8)⟩, ⟨some 57, none, .bsl 1 1 [.int .i64 0] [(0, .t 56)]⟩, ⟨some 58, none, .app (.t 55) (.t 57) 1 8⟩, ⟨some 5, none, .mv (.t 58)⟩]) (.seq (.reg [⟨some 59, none, .mv (.t 0)⟩, ⟨some 60, none, .mv (.t 8)⟩, ⟨some 61, none, .ixa (.t 59) (.t 60) 1⟩, ⟨some 62, none, .ld (.t 61) 1 false⟩, ⟨some 6, none, .mv (.t 62)⟩]) (.reg [⟨some 63, none, .mv (.t 0)⟩, ⟨some 64, none, .mv (.t 8)⟩, ⟨some 65, none, .ixa (.t 63) (.t 64) 1⟩, ⟨some 66, none, .ld (.t 65) 1 false⟩, ⟨some 7, none, .mv (.t 66)⟩])))))) (.reg [⟨some 22, none, .mv (.t 8)⟩, ⟨some 23, none, .bin .add (.t 22) (.c (.int .i64 1))⟩, ⟨some 8, none, .mv (.t 23)⟩])))))) (.seq (.reg [⟨some 67, none, .mv (.t 5)⟩, ⟨some 4, none, .mv (.t 67)⟩]) .ret))))))
theorem code_spec_FewestPieces : HasCode Try.prog fn_spec_FewestPieces mc_spec_FewestPieces [.t 4] 68 := ⟨mixed, Try.f23, _, Try.func23, rfl, by kernel_rfl, by kernel_rfl, rfl, by kernel_rfl, rfl⟩

def mc_impl_validHeights : MC :=
  .seq (.reg [⟨some 2, none, .mv (.c (.bool false))⟩]) (.seq (.seq (.reg [⟨some 5, none, .mv (.t 0)⟩, ⟨some 6, none, .len (.t 5)⟩, ⟨some 7, none, .bin .lss (.t 6) (.c (.int .i64 1))⟩, ⟨some 8, none, .mv (.t 7)⟩, ⟨some 9, some (8, false), .mv (.t 0)⟩, ⟨some 10, some (8, false), .len (.t 9)⟩, ⟨some 11, some (8, false), .bin .gtr (.t 10) (.c (.int .i64 8))⟩, ⟨some 12, none, .pick (.t 8) (.c (.bool true)) (.t 11)⟩]) (.cond (.t 12) (.seq (.reg [⟨some 2, none, .mv (.c (.bool false))⟩]) .ret) .skip)) (.seq (.seq (.reg [⟨some 13, none, .mv (.t 0)⟩, ⟨some 14, none, .len (.t 13)⟩, ⟨some 15, none, .mv (.c (.int .i64 0))⟩]) (.block 0 (.loop (.seq (.reg [⟨some 16, none, .bin .lss (.t 15) (.t 14)⟩]) (.seq (.cond (.t 16) .skip (.exit 0)) (.seq (.block 1 (.seq (.reg [⟨some 17, none, .ixa (.t 13) (.t 15) 1⟩, ⟨some 18, none, .ld (.t 17) 1 false⟩, ⟨some 4, none, .mv (.t 18)⟩]) (.seq (.reg [⟨some 19, none, .mv (.t 4)⟩, ⟨some 20, none, .bin .lss (.t 19) (.c (.int .i64 (-30)))⟩, ⟨some 21, none, .mv (.t 20)⟩, ⟨some 22, some (21, false), .mv (.t 4)⟩, ⟨some 23, some (21, false), .bin .gtr (.t 22) (.c (.int .i64 30))⟩, ⟨some 24, none, .pick (.t 21) (.c (.bool true)) (.t 23)⟩]) (.cond (.t 24) (.seq (.reg [⟨some 2, none, .mv (.c (.bool false))⟩]) .ret) .skip)))) (.reg [⟨some 25, none, .bin .add (.t 15) (.c (.int .i64 1))⟩, ⟨some 15, none, .mv (.t 25)⟩]))))))) (.seq (.reg [⟨some 2, none, .mv (.c (.bool true))⟩]) .ret)))
theorem code_impl_validHeights : HasCode Try.prog fn_impl_validHeights mc_impl_validHeights [.t 2] 26 := ⟨mixed, Try.f24, _, Try.func24, rfl, by kernel_rfl, by kernel_rfl, rfl, by kernel_rfl, rfl⟩

def mc_slices_Max_ints : MC :=
  .seq (.reg [⟨some 2, none, .mv (.c (.int .i64 0))⟩]) (.seq (.seq (.reg [⟨some 5, none, .mv (.t 0)⟩, ⟨some 6, none, .len (.t 5)⟩, ⟨some 7, none, .bin .lss (.t 6) (.c (.int .i64 1))⟩]) (.cond (.t 7) (.reg [⟨some 8, none, .mki 9 (.c (.str [115, 108, 105, 99, 101, 115, 46, 77, 97, 120, 58, 32, 101, 109, 112, 116, 121, 32, 108, 105, 115, 116]))⟩, ⟨none, none, .die⟩]) .skip)) (.seq (.reg [⟨some 9, none, .mv (.t 0)⟩, ⟨some 10, none, .ixa (.t 9) (.c (.int .i64 0)) 1⟩, ⟨some 11, none, .ld (.t 10) 1 false⟩, ⟨some 3, none, .mv (.t 11)⟩]) (.seq (.seq (.reg [⟨some 4, none, .mv (.c (.int .i64 1))⟩]) (.block 0 (.loop (.seq (.seq (.reg [⟨some 12, none, .mv (.t 4)⟩, ⟨some 13, none, .mv (.t 0)⟩, ⟨some 14, none, .len (.t 13)⟩, ⟨some 15, none, .bin .lss (.t 12) (.t 14)⟩]) (.cond (.t 15) .skip (.exit 0))) (.seq (.block 1 (.reg [⟨some 18, none, .mv (.t 3)⟩, ⟨some 19, none, .mv (.t 0)⟩, ⟨some 20, none, .mv (.t 4)⟩, ⟨some 21, none, .ixa (.t 19) (.t 20) 1⟩, ⟨some 22, none, .ld (.t 21) 1 false⟩, ⟨some 23, none, .mnmx true (.t 18) [.t 22]⟩, ⟨some 3, none, .mv (.t 23)⟩])) (.reg [⟨some 16, none, .mv (.t 4)⟩, ⟨some 17, none, .bin .add (.t 16) (.c (.int .i64 1))⟩, ⟨some 4, none, .mv (.t 17)⟩])))))) (.seq (.reg [⟨some 24, none, .mv (.t 3)⟩, ⟨some 2, none, .mv (.t 24)⟩]) .ret))))
theorem code_slices_Max_ints : HasCode Try.prog fn_slices_Max_ints mc_slices_Max_ints [.t 2] 25 := ⟨mixed, Try.f26, _, Try.func26, rfl, by kernel_rfl, by kernel_rfl, rfl, by kernel_rfl, rfl⟩

def mc_slices_Min_ints : MC :=
  .seq (.reg [⟨some 2, none, .mv (.c (.int .i64 0))⟩]) (.seq (.seq (.reg [⟨some 5, none, .mv (.t 0)⟩, ⟨some 6, none, .len (.t 5)⟩, ⟨some 7, none, .bin .lss (.t 6) (.c (.int .i64 1))⟩]) (.cond (.t 7) (.reg [⟨some 8, none, .mki 9 (.c (.str [115, 108, 105, 99, 101, 115, 46, 77, 105, 110, 58, 32, 101, 109, 112, 116, 121, 32, 108, 105, 115, 116]))⟩, ⟨none, none, .die⟩]) .skip)) (.seq (.reg [⟨some 9, none, .mv (.t 0)⟩, ⟨some 10, none, .ixa (.t 9) (.c (.int .i64 0)) 1⟩, ⟨some 11, none, .ld (.t 10) 1 false⟩, ⟨some 3, none, .mv (.t 11)⟩]) (.seq (.seq (.reg [⟨some 4, none, .mv (.c (.int .i64 1))⟩]) (.block 0 (.loop (.seq (.seq (.reg [⟨some 12, none, .mv (.t 4)⟩, ⟨some 13, none, .mv (.t 0)⟩, ⟨some 14, none, .len (.t 13)⟩, ⟨some 15, none, .bin .lss (.t 12) (.t 14)⟩]) (.cond (.t 15) .skip (.exit 0))) (.seq (.block 1 (.reg [⟨some 18, none, .mv (.t 3)⟩, ⟨some 19, none, .mv (.t 0)⟩, ⟨some 20, none, .mv (.t 4)⟩, ⟨some 21, none, .ixa (.t 19) (.t 20) 1⟩, ⟨some 22, none, .ld (.t 21) 1 false⟩, ⟨some 23, none, .mnmx false (.t 18) [.t 22]⟩, ⟨some 3, none, .mv (.t 23)⟩])) (.reg [⟨some 16, none, .mv (.t 4)⟩, ⟨some 17, none, .bin .add (.t 16) (.c (.int .i64 1))⟩, ⟨some 4, none, .mv (.t 17)⟩])))))) (.seq (.reg [⟨some 24, none, .mv (.t 3)⟩, ⟨some 2, none, .mv (.t 24)⟩]) .ret))))
theorem code_slices_Min_ints : HasCode Try.prog fn_slices_Min_ints mc_slices_Min_ints [.t 2] 25 := ⟨mixed, Try.f27, _, Try.func27, rfl, by kernel_rfl, by kernel_rfl, rfl, by kernel_rfl, rfl⟩

end Go.Rx.Try
