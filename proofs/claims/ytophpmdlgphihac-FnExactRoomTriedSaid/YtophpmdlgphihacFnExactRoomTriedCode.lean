/-
  The code of each function of the program, taken up. Made by a program.
-/
import Derived.Test.YtophpmdlgphihacProg
import Derived.Test.YtophpmdlgphihacRxI
import Derived.KernelRfl
namespace Go.Rx.Try
open Go.Proofs
set_option maxRecDepth 100000

abbrev fn_laws_FnExactRoomTried : FuncId := 3
abbrev fn_laws_FnRoomTried : FuncId := 4
abbrev fn_spec_RoomTried : FuncId := 5
abbrev fn_laws_toIntS : FuncId := 6
abbrev fn_impl_RoomTried : FuncId := 7
abbrev fn_laws_eqIntS : FuncId := 8
abbrev fn_spec_DrawRoomTried : FuncId := 9
abbrev fn_laws_turned : FuncId := 10
abbrev fn_spec_validSteps : FuncId := 11
abbrev fn_spec_inRange : FuncId := 12
abbrev fn_spec_roomFrom : FuncId := 13
abbrev fn_impl_validPieces : FuncId := 14
abbrev fn_impl_roomOf : FuncId := 15
abbrev fn_impl_allCuts : FuncId := 16
abbrev fn_spec_newReader : FuncId := 17
abbrev fn_spec_stepList : FuncId := 18
abbrev fn_spec_reader_one : FuncId := 19
abbrev fn_impl_validHeights : FuncId := 20
abbrev fn_slices_Max_ints : FuncId := 21
abbrev fn_slices_Min_ints : FuncId := 22
abbrev fn_impl_allCuts_1 : FuncId := 23
abbrev fn_impl_firstPlaces : FuncId := 24
abbrev fn_impl_piecesBehind : FuncId := 25
abbrev fn_spec_reader_pick : FuncId := 26
abbrev fn_impl_places_has : FuncId := 27
abbrev fn_runtime_boundsError_Error : FuncId := 28
abbrev fn_runtime_boundsError_RuntimeError : FuncId := 29
abbrev fn_runtime_errorString_Error : FuncId := 30
abbrev fn_runtime_errorString_RuntimeError : FuncId := 31
abbrev fn_runtime_plainError_Error : FuncId := 32
abbrev fn_runtime_plainError_RuntimeError : FuncId := 33
abbrev fn_runtime_errorAddressString_Error : FuncId := 34
abbrev fn_runtime_errorAddressString_RuntimeError : FuncId := 35
abbrev fn_runtime_TypeAssertionError_Error : FuncId := 36
abbrev fn_runtime_TypeAssertionError_RuntimeError : FuncId := 37
abbrev fn_runtime_PanicNilError_Error : FuncId := 38
abbrev fn_runtime_PanicNilError_RuntimeError : FuncId := 39
abbrev fn_internal_abi_Type_Align : FuncId := 40
abbrev fn_internal_runtime_maps_unhashableTypeError_Error : FuncId := 41
abbrev fn_internal_runtime_maps_unhashableTypeError_RuntimeError : FuncId := 42
abbrev fn_internal_abi_Kind_String : FuncId := 43
abbrev ty_abi_BoundsErrorCode : TypeId := 6
abbrev ty_maps_unhashableTypeError : TypeId := 19
abbrev ty_impl_places : TypeId := 44
abbrev ty_spec_reader : TypeId := 48
abbrev ty_abi_TFlag : TypeId := 59
abbrev ty_abi_Kind : TypeId := 60
abbrev ty_abi_NameOff : TypeId := 63
abbrev ty_abi_TypeOff : TypeId := 64
abbrev ty_abi_Type : TypeId := 66
theorem mixed : Try.prog.follows .mixedOrders = true := by kernel_rfl

def mc_laws_FnExactRoomTried : MC :=
  .seq (.reg [⟨some 4, none, .mv (.c (.bool false))⟩]) (.seq (.seq (.reg [⟨some 8, none, .mv (.t 0)⟩, ⟨some 9, none, .len (.t 8)⟩, ⟨some 10, none, .bin .gtr (.t 9) (.c (.int .i64 1048576))⟩]) (.cond (.t 10) (.seq (.reg [⟨some 4, none, .mv (.c (.bool true))⟩]) .ret) .skip)) (.seq (.reg [⟨some 11, none, .mv (.t 0)⟩, ⟨some 12, none, .call fn_laws_toIntS [.t 11]⟩, ⟨some 13, none, .mv (.t 1)⟩, ⟨some 14, none, .call fn_spec_RoomTried [.t 12, .t 13]⟩, ⟨some 5, none, .mv (.t 14)⟩]) (.seq (.reg [⟨some 15, none, .mv (.t 0)⟩, ⟨some 16, none, .call fn_laws_toIntS [.t 15]⟩, ⟨some 6, none, .mv (.t 16)⟩]) (.seq (.reg [⟨some 17, none, .mv (.t 6)⟩, ⟨some 18, none, .mv (.t 1)⟩, ⟨some 19, none, .call fn_impl_RoomTried [.t 17, .t 18]⟩, ⟨some 7, none, .mv (.t 19)⟩]) (.seq (.seq (.reg [⟨some 20, none, .mv (.t 7)⟩, ⟨some 21, none, .mv (.t 5)⟩, ⟨some 22, none, .bin .neq (.t 20) (.t 21)⟩]) (.cond (.t 22) (.seq (.reg [⟨some 4, none, .mv (.c (.bool false))⟩]) .ret) .skip)) (.seq (.seq (.reg [⟨some 23, none, .mv (.t 6)⟩, ⟨some 24, none, .mv (.t 0)⟩, ⟨some 25, none, .call fn_laws_toIntS [.t 24]⟩, ⟨some 26, none, .call fn_laws_eqIntS [.t 23, .t 25]⟩, ⟨some 27, none, .un .not (.t 26)⟩]) (.cond (.t 27) (.seq (.reg [⟨some 4, none, .mv (.c (.bool false))⟩]) .ret) .skip)) (.seq (.reg [⟨some 4, none, .mv (.c (.bool true))⟩]) .ret)))))))
theorem code_laws_FnExactRoomTried : HasCode Try.prog fn_laws_FnExactRoomTried mc_laws_FnExactRoomTried [.t 4] 28 := ⟨mixed, Try.f3, _, Try.func3, rfl, by kernel_rfl, by kernel_rfl, rfl, by kernel_rfl, rfl⟩

def mc_spec_RoomTried : MC :=
  .seq (.reg [⟨some 4, none, .mv (.c (.int .i64 0))⟩]) (.seq (.seq (.reg [⟨some 5, none, .mv (.t 0)⟩, ⟨some 6, none, .call fn_spec_validSteps [.t 5]⟩, ⟨some 7, none, .un .not (.t 6)⟩, ⟨some 8, none, .mv (.t 7)⟩, ⟨some 9, some (8, false), .mv (.t 1)⟩, ⟨some 10, some (8, false), .call fn_spec_inRange [.t 9, .c (.int .i64 1), .c (.int .i64 8)]⟩, ⟨some 11, some (8, false), .un .not (.t 10)⟩, ⟨some 12, none, .pick (.t 8) (.c (.bool true)) (.t 11)⟩]) (.cond (.t 12) (.seq (.reg [⟨some 4, none, .mv (.c (.int .i64 (-1)))⟩]) .ret) .skip)) (.seq (.reg [⟨some 13, none, .mv (.t 0)⟩, ⟨some 14, none, .mv (.t 1)⟩, ⟨some 15, none, .call fn_spec_roomFrom [.t 13, .c (.int .i64 0), .t 14]⟩, ⟨some 4, none, .mv (.t 15)⟩]) .ret))
theorem code_spec_RoomTried : HasCode Try.prog fn_spec_RoomTried mc_spec_RoomTried [.t 4] 16 := ⟨mixed, Try.f5, _, Try.func5, rfl, by kernel_rfl, by kernel_rfl, rfl, by kernel_rfl, rfl⟩

def mc_laws_toIntS : MC :=
  .seq (.reg [⟨some 2, none, .mv (.c .nilSlice)⟩]) (.seq (.reg [⟨some 5, none, .mv (.t 0)⟩, ⟨some 6, none, .len (.t 5)⟩, ⟨some 7, none, .mks (.t 6) (.t 6) [.int .i64 0] 1 8⟩, ⟨some 3, none, .mv (.t 7)⟩]) (.seq (.seq (.reg [⟨some 4, none, .mv (.c (.int .i64 0))⟩]) (.block 0 (.loop (.seq (.seq (.reg [⟨some 8, none, .mv (.t 4)⟩, ⟨some 9, none, .mv (.t 0)⟩, ⟨some 10, none, .len (.t 9)⟩, ⟨some 11, none, .bin .lss (.t 8) (.t 10)⟩]) (.cond (.t 11) .skip (.exit 0))) (.seq (.block 1 (.reg [⟨some 14, none, .mv (.t 3)⟩, ⟨some 15, none, .mv (.t 4)⟩, ⟨some 16, none, .mv (.t 0)⟩, ⟨some 17, none, .mv (.t 4)⟩, ⟨some 18, none, .ixa (.t 16) (.t 17) 1⟩, ⟨some 19, none, .ld (.t 18) 1 false⟩, ⟨some 20, none, .ixa (.t 14) (.t 15) 1⟩, ⟨none, none, .st (.t 20) (.t 19) 1⟩])) (.reg [⟨some 12, none, .mv (.t 4)⟩, ⟨some 13, none, .bin .add (.t 12) (.c (.int .i64 1))⟩, ⟨some 4, none, .mv (.t 13)⟩])))))) (.seq (.reg [⟨some 21, none, .mv (.t 3)⟩, ⟨some 2, none, .mv (.t 21)⟩]) .ret)))
theorem code_laws_toIntS : HasCode Try.prog fn_laws_toIntS mc_laws_toIntS [.t 2] 22 := ⟨mixed, Try.f6, _, Try.func6, rfl, by kernel_rfl, by kernel_rfl, rfl, by kernel_rfl, rfl⟩

def mc_impl_RoomTried : MC :=
  .seq (.reg [⟨some 4, none, .mv (.c (.int .i64 0))⟩]) (.seq (.seq (.reg [⟨some 10, none, .mv (.t 0)⟩, ⟨some 11, none, .mv (.t 1)⟩, ⟨some 12, none, .call fn_impl_validPieces [.t 10, .t 11]⟩, ⟨some 13, none, .un .not (.t 12)⟩]) (.cond (.t 13) (.seq (.reg [⟨some 4, none, .mv (.c (.int .i64 (-1)))⟩]) .ret) .skip)) (.seq (.reg [⟨some 14, none, .mv (.t 0)⟩, ⟨some 15, none, .call fn_impl_roomOf [.t 14]⟩, ⟨some 5, none, .new [.int .i64 0]⟩, ⟨none, none, .st (.t 5) (.t 15) 1⟩]) (.seq (.seq (.reg [⟨some 16, none, .mv (.t 0)⟩, ⟨some 17, none, .mv (.t 1)⟩, ⟨some 18, none, .call fn_impl_allCuts [.t 16, .t 17]⟩]) (.block 0 (.rfunc (.t 18) [19] (.reg [⟨some 6, none, .mv (.t 19)⟩]) (.block 1 (.seq (.reg [⟨some 7, none, .mv (.c (.int .i64 0))⟩]) (.seq (.seq (.reg [⟨some 20, none, .mv (.t 6)⟩, ⟨some 21, none, .len (.t 20)⟩, ⟨some 22, none, .mv (.c (.int .i64 0))⟩]) (.block 2 (.loop (.seq (.reg [⟨some 23, none, .bin .lss (.t 22) (.t 21)⟩]) (.seq (.cond (.t 23) .skip (.exit 2)) (.seq (.block 3 (.seq (.reg [⟨some 24, none, .ixa (.t 20) (.t 22) 1⟩, ⟨some 25, none, .ld (.t 24) 1 false⟩, ⟨some 9, none, .mv (.t 25)⟩]) (.reg [⟨some 26, none, .mv (.t 7)⟩, ⟨some 27, none, .mv (.t 9)⟩, ⟨some 28, none, .call fn_impl_roomOf [.t 27]⟩, ⟨some 29, none, .mnmx true (.t 26) [.t 28]⟩, ⟨some 7, none, .mv (.t 29)⟩]))) (.reg [⟨some 30, none, .bin .add (.t 22) (.c (.int .i64 1))⟩, ⟨some 22, none, .mv (.t 30)⟩]))))))) (.reg [⟨some 31, none, .ld (.t 5) 1 false⟩, ⟨some 32, none, .mv (.t 7)⟩, ⟨some 33, none, .mnmx false (.t 31) [.t 32]⟩, ⟨none, none, .st (.t 5) (.t 33) 1⟩]))))))) (.seq (.reg [⟨some 34, none, .ld (.t 5) 1 false⟩, ⟨some 4, none, .mv (.t 34)⟩]) .ret))))
theorem code_impl_RoomTried : HasCode Try.prog fn_impl_RoomTried mc_impl_RoomTried [.t 4] 35 := ⟨mixed, Try.f7, _, Try.func7, rfl, by kernel_rfl, by kernel_rfl, rfl, by kernel_rfl, rfl⟩

def mc_laws_eqIntS : MC :=
  .seq (.reg [⟨some 4, none, .mv (.c (.bool false))⟩]) (.seq (.seq (.reg [⟨some 6, none, .mv (.t 0)⟩, ⟨some 7, none, .len (.t 6)⟩, ⟨some 8, none, .mv (.t 1)⟩, ⟨some 9, none, .len (.t 8)⟩, ⟨some 10, none, .bin .neq (.t 7) (.t 9)⟩]) (.cond (.t 10) (.seq (.reg [⟨some 4, none, .mv (.c (.bool false))⟩]) .ret) .skip)) (.seq (.seq (.reg [⟨some 5, none, .mv (.c (.int .i64 0))⟩]) (.block 0 (.loop (.seq (.seq (.reg [⟨some 11, none, .mv (.t 5)⟩, ⟨some 12, none, .mv (.t 0)⟩, ⟨some 13, none, .len (.t 12)⟩, ⟨some 14, none, .bin .lss (.t 11) (.t 13)⟩]) (.cond (.t 14) .skip (.exit 0))) (.seq (.block 1 (.seq (.drq [⟨some 17, none, .mv (.t 0)⟩, ⟨some 18, none, .mv (.t 5)⟩, ⟨some 19, none, .ixa (.t 17) (.t 18) 1⟩, ⟨some 20, none, .ld (.t 19) 1 false⟩, ⟨some 21, none, .mv (.t 1)⟩, ⟨some 22, none, .mv (.t 5)⟩, ⟨some 23, none, .ixa (.t 21) (.t 22) 1⟩, ⟨some 24, none, .ld (.t 23) 1 false⟩, ⟨some 25, none, .bin .neq (.t 20) (.t 24)⟩]) (.cond (.t 25) (.seq (.reg [⟨some 4, none, .mv (.c (.bool false))⟩]) .ret) .skip))) (.reg [⟨some 15, none, .mv (.t 5)⟩, ⟨some 16, none, .bin .add (.t 15) (.c (.int .i64 1))⟩, ⟨some 5, none, .mv (.t 16)⟩])))))) (.seq (.reg [⟨some 4, none, .mv (.c (.bool true))⟩]) .ret)))
theorem code_laws_eqIntS : HasCode Try.prog fn_laws_eqIntS mc_laws_eqIntS [.t 4] 26 := ⟨mixed, Try.f8, _, Try.func8, rfl, by kernel_rfl, by kernel_rfl, rfl, by kernel_rfl, rfl⟩

def mc_spec_validSteps : MC :=
  .seq (.reg [⟨some 2, none, .mv (.c (.bool false))⟩]) (.seq (.seq (.reg [⟨some 3, none, .mv (.c (.int .i64 0))⟩]) (.block 0 (.loop (.seq (.seq (.reg [⟨some 4, none, .mv (.t 3)⟩, ⟨some 5, none, .mv (.t 0)⟩, ⟨some 6, none, .len (.t 5)⟩, ⟨some 7, none, .bin .lss (.t 4) (.t 6)⟩]) (.cond (.t 7) .skip (.exit 0))) (.seq (.block 1 (.seq (.reg [⟨some 10, none, .mv (.t 0)⟩, ⟨some 11, none, .mv (.t 3)⟩, ⟨some 12, none, .ixa (.t 10) (.t 11) 1⟩, ⟨some 13, none, .ld (.t 12) 1 false⟩, ⟨some 14, none, .call fn_spec_inRange [.t 13, .c (.int .i64 (-30)), .c (.int .i64 30)]⟩, ⟨some 15, none, .un .not (.t 14)⟩]) (.cond (.t 15) (.seq (.reg [⟨some 2, none, .mv (.c (.bool false))⟩]) .ret) .skip))) (.reg [⟨some 8, none, .mv (.t 3)⟩, ⟨some 9, none, .bin .add (.t 8) (.c (.int .i64 1))⟩, ⟨some 3, none, .mv (.t 9)⟩])))))) (.seq (.reg [⟨some 16, none, .mv (.t 0)⟩, ⟨some 17, none, .len (.t 16)⟩, ⟨some 18, none, .call fn_spec_inRange [.t 17, .c (.int .i64 1), .c (.int .i64 8)]⟩, ⟨some 2, none, .mv (.t 18)⟩]) .ret))
theorem code_spec_validSteps : HasCode Try.prog fn_spec_validSteps mc_spec_validSteps [.t 2] 19 := ⟨mixed, Try.f11, _, Try.func11, rfl, by kernel_rfl, by kernel_rfl, rfl, by kernel_rfl, rfl⟩

def mc_spec_inRange : MC :=
  .seq (.reg [⟨some 6, none, .mv (.c (.bool false))⟩]) (.seq (.reg [⟨some 7, none, .mv (.t 1)⟩, ⟨some 8, none, .mv (.t 0)⟩, ⟨some 9, none, .bin .leq (.t 7) (.t 8)⟩, ⟨some 10, none, .mv (.t 9)⟩, ⟨some 11, some (10, true), .mv (.t 0)⟩, ⟨some 12, some (10, true), .mv (.t 2)⟩, ⟨some 13, some (10, true), .bin .leq (.t 11) (.t 12)⟩, ⟨some 14, none, .pick (.t 10) (.t 13) (.c (.bool false))⟩, ⟨some 6, none, .mv (.t 14)⟩]) .ret)
theorem code_spec_inRange : HasCode Try.prog fn_spec_inRange mc_spec_inRange [.t 6] 15 := ⟨mixed, Try.f12, _, Try.func12, rfl, by kernel_rfl, by kernel_rfl, rfl, by kernel_rfl, rfl⟩

def mc_spec_roomFrom : MC :=
  .seq (.reg [⟨some 6, none, .mv (.c (.int .i64 0))⟩]) (.seq (.seq (.reg [⟨some 13, none, .mv (.t 1)⟩, ⟨some 14, none, .mv (.t 0)⟩, ⟨some 15, none, .len (.t 14)⟩, ⟨some 16, none, .bin .eql (.t 13) (.t 15)⟩]) (.cond (.t 16) (.seq (.reg [⟨some 6, none, .mv (.c (.int .i64 0))⟩]) .ret) .skip)) (.seq (.reg [⟨some 7, none, .mv (.c (.int .i64 (-1)))⟩]) (.seq (.reg [⟨some 17, none, .mv (.t 0)⟩, ⟨some 18, none, .mv (.t 1)⟩, ⟨some 19, none, .ixa (.t 17) (.t 18) 1⟩, ⟨some 20, none, .ld (.t 19) 1 false⟩, ⟨some 8, none, .mv (.t 20)⟩]) (.seq (.reg [⟨some 21, none, .mv (.t 0)⟩, ⟨some 22, none, .mv (.t 1)⟩, ⟨some 23, none, .ixa (.t 21) (.t 22) 1⟩, ⟨some 24, none, .ld (.t 23) 1 false⟩, ⟨some 9, none, .mv (.t 24)⟩]) (.seq (.seq (.reg [⟨some 25, none, .mv (.t 1)⟩, ⟨some 26, none, .bin .add (.t 25) (.c (.int .i64 1))⟩, ⟨some 10, none, .mv (.t 26)⟩]) (.block 0 (.loop (.seq (.seq (.reg [⟨some 27, none, .mv (.t 10)⟩, ⟨some 28, none, .mv (.t 0)⟩, ⟨some 29, none, .len (.t 28)⟩, ⟨some 30, none, .bin .leq (.t 27) (.t 29)⟩]) (.cond (.t 30) .skip (.exit 0))) (.seq (.block 1 (.seq (.seq (.reg [⟨some 33, none, .mv (.t 10)⟩, ⟨some 34, none, .mv (.t 0)⟩, ⟨some 35, none, .len (.t 34)⟩, ⟨some 36, none, .bin .eql (.t 33) (.t 35)⟩, ⟨some 37, none, .mv (.t 36)⟩, ⟨some 38, some (37, false), .mv (.t 2)⟩, ⟨some 39, some (37, false), .bin .gtr (.t 38) (.c (.int .i64 1))⟩, ⟨some 40, none, .pick (.t 37) (.c (.bool true)) (.t 39)⟩]) (.cond (.t 40) (.seq (.reg [⟨some 41, none, .mv (.t 0)⟩, ⟨some 42, none, .mv (.t 10)⟩, ⟨some 43, none, .mv (.t 2)⟩, ⟨some 44, none, .bin .sub (.t 43) (.c (.int .i64 1))⟩, ⟨some 45, none, .call fn_spec_roomFrom [.t 41, .t 42, .t 44]⟩, ⟨some 11, none, .mv (.t 45)⟩]) (.seq (.seq (.reg [⟨some 46, none, .mv (.t 10)⟩, ⟨some 47, none, .mv (.t 0)⟩, ⟨some 48, none, .len (.t 47)⟩, ⟨some 49, none, .bin .eql (.t 46) (.t 48)⟩]) (.cond (.t 49) (.reg [⟨some 11, none, .mv (.c (.int .i64 0))⟩]) .skip)) (.seq (.reg [⟨some 50, none, .mv (.t 9)⟩, ⟨some 51, none, .mv (.t 8)⟩, ⟨some 52, none, .bin .sub (.t 50) (.t 51)⟩, ⟨some 53, none, .mv (.t 11)⟩, ⟨some 54, none, .mnmx true (.t 52) [.t 53]⟩, ⟨some 12, none, .mv (.t 54)⟩]) (.seq (.reg [⟨some 55, none, .mv (.t 7)⟩, ⟨some 56, none, .bin .lss (.t 55) (.c (.int .i64 0))⟩, ⟨some 57, none, .mv (.t 56)⟩, ⟨some 58, some (57, false), .mv (.t 12)⟩, ⟨some 59, some (57, false), .mv (.t 7)⟩, ⟨some 60, some (57, false), .bin .lss (.t 58) (.t 59)⟩, ⟨some 61, none, .pick (.t 57) (.c (.bool true)) (.t 60)⟩]) (.cond (.t 61) (.reg [⟨some 62, none, .mv (.t 12)⟩, ⟨some 7, none, .mv (.t 62)⟩]) .skip))))) .skip)) (.seq (.reg [⟨some 63, none, .mv (.t 10)⟩, ⟨some 64, none, .mv (.t 0)⟩, ⟨some 65, none, .len (.t 64)⟩, ⟨some 66, none, .bin .lss (.t 63) (.t 65)⟩]) (.cond (.t 66) (.seq (.reg [⟨some 67, none, .mv (.t 8)⟩, ⟨some 68, none, .mv (.t 0)⟩, ⟨some 69, none, .mv (.t 10)⟩, ⟨some 70, none, .ixa (.t 68) (.t 69) 1⟩, ⟨some 71, none, .ld (.t 70) 1 false⟩, ⟨some 72, none, .mnmx false (.t 67) [.t 71]⟩, ⟨some 8, none, .mv (.t 72)⟩]) (.reg [⟨some 73, none, .mv (.t 9)⟩, ⟨some 74, none, .mv (.t 0)⟩, ⟨some 75, none, .mv (.t 10)⟩, ⟨some 76, none, .ixa (.t 74) (.t 75) 1⟩, ⟨some 77, none, .ld (.t 76) 1 false⟩, ⟨some 78, none, .mnmx true (.t 73) [.t 77]⟩, ⟨some 9, none, .mv (.t 78)⟩])) .skip)))) (.reg [⟨some 31, none, .mv (.t 10)⟩, ⟨some 32, none, .bin .add (.t 31) (.c (.int .i64 1))⟩, ⟨some 10, none, .mv (.t 32)⟩])))))) (.seq (.reg [⟨some 79, none, .mv (.t 7)⟩, ⟨some 6, none, .mv (.t 79)⟩]) .ret))))))
theorem code_spec_roomFrom : HasCode Try.prog fn_spec_roomFrom mc_spec_roomFrom [.t 6] 80 := ⟨mixed, Try.f13, _, Try.func13, rfl, by kernel_rfl, by kernel_rfl, rfl, by kernel_rfl, rfl⟩

def mc_impl_validPieces : MC :=
  .seq (.reg [⟨some 4, none, .mv (.c (.bool false))⟩]) (.seq (.reg [⟨some 5, none, .mv (.t 0)⟩, ⟨some 6, none, .call fn_impl_validHeights [.t 5]⟩, ⟨some 7, none, .mv (.t 6)⟩, ⟨some 8, some (7, true), .mv (.t 1)⟩, ⟨some 9, some (7, true), .bin .geq (.t 8) (.c (.int .i64 1))⟩, ⟨some 10, none, .pick (.t 7) (.t 9) (.c (.bool false))⟩, ⟨some 11, none, .mv (.t 10)⟩, ⟨some 12, some (11, true), .mv (.t 1)⟩, ⟨some 13, some (11, true), .bin .leq (.t 12) (.c (.int .i64 8))⟩, ⟨some 14, none, .pick (.t 11) (.t 13) (.c (.bool false))⟩, ⟨some 4, none, .mv (.t 14)⟩]) .ret)
theorem code_impl_validPieces : HasCode Try.prog fn_impl_validPieces mc_impl_validPieces [.t 4] 15 := ⟨mixed, Try.f14, _, Try.func14, rfl, by kernel_rfl, by kernel_rfl, rfl, by kernel_rfl, rfl⟩

def mc_impl_roomOf : MC :=
  .seq (.reg [⟨some 2, none, .mv (.c (.int .i64 0))⟩]) (.seq (.reg [⟨some 3, none, .mv (.t 0)⟩, ⟨some 4, none, .call fn_slices_Max_ints [.t 3]⟩, ⟨some 5, none, .mv (.t 0)⟩, ⟨some 6, none, .call fn_slices_Min_ints [.t 5]⟩, ⟨some 7, none, .bin .sub (.t 4) (.t 6)⟩, ⟨some 2, none, .mv (.t 7)⟩]) .ret)
theorem code_impl_roomOf : HasCode Try.prog fn_impl_roomOf mc_impl_roomOf [.t 2] 8 := ⟨mixed, Try.f15, _, Try.func15, rfl, by kernel_rfl, by kernel_rfl, rfl, by kernel_rfl, rfl⟩

def mc_impl_allCuts : MC :=
  .seq (.reg [⟨some 2, none, .box (.t 0)⟩, ⟨some 3, none, .box (.t 1)⟩, ⟨some 4, none, .mv (.c .nilFunc)⟩]) (.seq (.reg [⟨some 5, none, .mkf fn_impl_allCuts_1 [.t 2, .t 3]⟩, ⟨some 4, none, .mv (.t 5)⟩]) .ret)
theorem code_impl_allCuts : HasCode Try.prog fn_impl_allCuts mc_impl_allCuts [.t 4] 6 := ⟨mixed, Try.f16, _, Try.func16, rfl, by kernel_rfl, by kernel_rfl, rfl, by kernel_rfl, rfl⟩

def mc_impl_validHeights : MC :=
  .seq (.reg [⟨some 2, none, .mv (.c (.bool false))⟩]) (.seq (.seq (.reg [⟨some 5, none, .mv (.t 0)⟩, ⟨some 6, none, .len (.t 5)⟩, ⟨some 7, none, .bin .lss (.t 6) (.c (.int .i64 1))⟩, ⟨some 8, none, .mv (.t 7)⟩, ⟨some 9, some (8, false), .mv (.t 0)⟩, ⟨some 10, some (8, false), .len (.t 9)⟩, ⟨some 11, some (8, false), .bin .gtr (.t 10) (.c (.int .i64 8))⟩, ⟨some 12, none, .pick (.t 8) (.c (.bool true)) (.t 11)⟩]) (.cond (.t 12) (.seq (.reg [⟨some 2, none, .mv (.c (.bool false))⟩]) .ret) .skip)) (.seq (.seq (.reg [⟨some 13, none, .mv (.t 0)⟩, ⟨some 14, none, .len (.t 13)⟩, ⟨some 15, none, .mv (.c (.int .i64 0))⟩]) (.block 0 (.loop (.seq (.reg [⟨some 16, none, .bin .lss (.t 15) (.t 14)⟩]) (.seq (.cond (.t 16) .skip (.exit 0)) (.seq (.block 1 (.seq (.reg [⟨some 17, none, .ixa (.t 13) (.t 15) 1⟩, ⟨some 18, none, .ld (.t 17) 1 false⟩, ⟨some 4, none, .mv (.t 18)⟩]) (.seq (.reg [⟨some 19, none, .mv (.t 4)⟩, ⟨some 20, none, .bin .lss (.t 19) (.c (.int .i64 (-30)))⟩, ⟨some 21, none, .mv (.t 20)⟩, ⟨some 22, some (21, false), .mv (.t 4)⟩, ⟨some 23, some (21, false), .bin .gtr (.t 22) (.c (.int .i64 30))⟩, ⟨some 24, none, .pick (.t 21) (.c (.bool true)) (.t 23)⟩]) (.cond (.t 24) (.seq (.reg [⟨some 2, none, .mv (.c (.bool false))⟩]) .ret) .skip)))) (.reg [⟨some 25, none, .bin .add (.t 15) (.c (.int .i64 1))⟩, ⟨some 15, none, .mv (.t 25)⟩]))))))) (.seq (.reg [⟨some 2, none, .mv (.c (.bool true))⟩]) .ret)))
theorem code_impl_validHeights : HasCode Try.prog fn_impl_validHeights mc_impl_validHeights [.t 2] 26 := ⟨mixed, Try.f20, _, Try.func20, rfl, by kernel_rfl, by kernel_rfl, rfl, by kernel_rfl, rfl⟩

def mc_slices_Max_ints : MC :=
  .seq (.reg [⟨some 2, none, .mv (.c (.int .i64 0))⟩]) (.seq (.seq (.reg [⟨some 5, none, .mv (.t 0)⟩, ⟨some 6, none, .len (.t 5)⟩, ⟨some 7, none, .bin .lss (.t 6) (.c (.int .i64 1))⟩]) (.cond (.t 7) (.reg [⟨some 8, none, .mki 9 (.c (.str [115, 108, 105, 99, 101, 115, 46, 77, 97, 120, 58, 32, 101, 109, 112, 116, 121, 32, 108, 105, 115, 116]))⟩, ⟨none, none, .die⟩]) .skip)) (.seq (.reg [⟨some 9, none, .mv (.t 0)⟩, ⟨some 10, none, .ixa (.t 9) (.c (.int .i64 0)) 1⟩, ⟨some 11, none, .ld (.t 10) 1 false⟩, ⟨some 3, none, .mv (.t 11)⟩]) (.seq (.seq (.reg [⟨some 4, none, .mv (.c (.int .i64 1))⟩]) (.block 0 (.loop (.seq (.seq (.reg [⟨some 12, none, .mv (.t 4)⟩, ⟨some 13, none, .mv (.t 0)⟩, ⟨some 14, none, .len (.t 13)⟩, ⟨some 15, none, .bin .lss (.t 12) (.t 14)⟩]) (.cond (.t 15) .skip (.exit 0))) (.seq (.block 1 (.reg [⟨some 18, none, .mv (.t 3)⟩, ⟨some 19, none, .mv (.t 0)⟩, ⟨some 20, none, .mv (.t 4)⟩, ⟨some 21, none, .ixa (.t 19) (.t 20) 1⟩, ⟨some 22, none, .ld (.t 21) 1 false⟩, ⟨some 23, none, .mnmx true (.t 18) [.t 22]⟩, ⟨some 3, none, .mv (.t 23)⟩])) (.reg [⟨some 16, none, .mv (.t 4)⟩, ⟨some 17, none, .bin .add (.t 16) (.c (.int .i64 1))⟩, ⟨some 4, none, .mv (.t 17)⟩])))))) (.seq (.reg [⟨some 24, none, .mv (.t 3)⟩, ⟨some 2, none, .mv (.t 24)⟩]) .ret))))
theorem code_slices_Max_ints : HasCode Try.prog fn_slices_Max_ints mc_slices_Max_ints [.t 2] 25 := ⟨mixed, Try.f21, _, Try.func21, rfl, by kernel_rfl, by kernel_rfl, rfl, by kernel_rfl, rfl⟩

def mc_slices_Min_ints : MC :=
  .seq (.reg [⟨some 2, none, .mv (.c (.int .i64 0))⟩]) (.seq (.seq (.reg [⟨some 5, none, .mv (.t 0)⟩, ⟨some 6, none, .len (.t 5)⟩, ⟨some 7, none, .bin .lss (.t 6) (.c (.int .i64 1))⟩]) (.cond (.t 7) (.reg [⟨some 8, none, .mki 9 (.c (.str [115, 108, 105, 99, 101, 115, 46, 77, 105, 110, 58, 32, 101, 109, 112, 116, 121, 32, 108, 105, 115, 116]))⟩, ⟨none, none, .die⟩]) .skip)) (.seq (.reg [⟨some 9, none, .mv (.t 0)⟩, ⟨some 10, none, .ixa (.t 9) (.c (.int .i64 0)) 1⟩, ⟨some 11, none, .ld (.t 10) 1 false⟩, ⟨some 3, none, .mv (.t 11)⟩]) (.seq (.seq (.reg [⟨some 4, none, .mv (.c (.int .i64 1))⟩]) (.block 0 (.loop (.seq (.seq (.reg [⟨some 12, none, .mv (.t 4)⟩, ⟨some 13, none, .mv (.t 0)⟩, ⟨some 14, none, .len (.t 13)⟩, ⟨some 15, none, .bin .lss (.t 12) (.t 14)⟩]) (.cond (.t 15) .skip (.exit 0))) (.seq (.block 1 (.reg [⟨some 18, none, .mv (.t 3)⟩, ⟨some 19, none, .mv (.t 0)⟩, ⟨some 20, none, .mv (.t 4)⟩, ⟨some 21, none, .ixa (.t 19) (.t 20) 1⟩, ⟨some 22, none, .ld (.t 21) 1 false⟩, ⟨some 23, none, .mnmx false (.t 18) [.t 22]⟩, ⟨some 3, none, .mv (.t 23)⟩])) (.reg [⟨some 16, none, .mv (.t 4)⟩, ⟨some 17, none, .bin .add (.t 16) (.c (.int .i64 1))⟩, ⟨some 4, none, .mv (.t 17)⟩])))))) (.seq (.reg [⟨some 24, none, .mv (.t 3)⟩, ⟨some 2, none, .mv (.t 24)⟩]) .ret))))
theorem code_slices_Min_ints : HasCode Try.prog fn_slices_Min_ints mc_slices_Min_ints [.t 2] 25 := ⟨mixed, Try.f22, _, Try.func22, rfl, by kernel_rfl, by kernel_rfl, rfl, by kernel_rfl, rfl⟩

def mc_impl_allCuts_1 : MC :=
  .seq (.reg [⟨some 6, none, .ld (.t 1) 1 false⟩, ⟨some 7, none, .len (.t 6)⟩, ⟨some 8, none, .bin .sub (.t 7) (.c (.int .i64 1))⟩, ⟨some 9, none, .call fn_impl_firstPlaces [.t 8]⟩, ⟨some 10, none, .bin .add (.t 9) (.c (.int .u64 1))⟩, ⟨some 11, none, .mv (.c (.int .u64 0))⟩]) (.block 0 (.loop (.seq (.reg [⟨some 12, none, .bin .lss (.t 11) (.t 10)⟩]) (.seq (.cond (.t 12) .skip (.exit 0)) (.seq (.block 1 (.seq (.reg [⟨some 13, none, .mv (.t 11)⟩, ⟨some 4, none, .mv (.t 13)⟩]) (.seq (.reg [⟨some 14, none, .ld (.t 1) 1 false⟩, ⟨some 15, none, .mv (.t 4)⟩, ⟨some 16, none, .call fn_impl_piecesBehind [.t 14, .t 15]⟩, ⟨some 5, none, .mv (.t 16)⟩]) (.seq (.reg [⟨some 17, none, .mv (.t 5)⟩, ⟨some 18, none, .len (.t 17)⟩, ⟨some 19, none, .ld (.t 2) 1 false⟩, ⟨some 20, none, .bin .leq (.t 18) (.t 19)⟩, ⟨some 21, none, .mv (.t 20)⟩, ⟨some 22, some (21, true), .mv (.t 0)⟩, ⟨some 23, some (21, true), .mv (.t 5)⟩, ⟨some 24, some (21, true), .callv (.t 22) [.t 23]⟩, ⟨some 25, some (21, true), .un .not (.t 24)⟩, ⟨some 26, none, .pick (.t 21) (.t 25) (.c (.bool false))⟩]) (.cond (.t 26) .ret .skip))))) (.reg [⟨some 27, none, .bin .add (.t 11) (.c (.int .u64 1))⟩, ⟨some 11, none, .mv (.t 27)⟩]))))))
theorem code_impl_allCuts_1 : HasCode Try.prog fn_impl_allCuts_1 mc_impl_allCuts_1 [] 28 := ⟨mixed, Try.f23, _, Try.func23, rfl, by kernel_rfl, by kernel_rfl, rfl, by kernel_rfl, rfl⟩

def mc_impl_firstPlaces : MC :=
  .seq (.reg [⟨some 2, none, .mv (.c (.int .u64 0))⟩]) (.seq (.reg [⟨some 3, none, .mv (.t 0)⟩, ⟨some 4, none, .bin .shl (.c (.int .u64 1)) (.t 3)⟩, ⟨some 5, none, .bin .sub (.t 4) (.c (.int .u64 1))⟩, ⟨some 2, none, .mv (.t 5)⟩]) .ret)
theorem code_impl_firstPlaces : HasCode Try.prog fn_impl_firstPlaces mc_impl_firstPlaces [.t 2] 6 := ⟨mixed, Try.f24, _, Try.func24, rfl, by kernel_rfl, by kernel_rfl, rfl, by kernel_rfl, rfl⟩

def mc_impl_piecesBehind : MC :=
  .seq (.reg [⟨some 4, none, .mv (.c .nilSlice)⟩]) (.seq (.reg [⟨some 5, none, .mv (.c .nilSlice)⟩]) (.seq (.reg [⟨some 6, none, .mv (.c (.int .i64 0))⟩]) (.seq (.seq (.reg [⟨some 8, none, .mv (.t 0)⟩, ⟨some 9, none, .len (.t 8)⟩, ⟨some 10, none, .mv (.c (.int .i64 0))⟩]) (.block 0 (.loop (.seq (.reg [⟨some 11, none, .bin .lss (.t 10) (.t 9)⟩]) (.seq (.cond (.t 11) .skip (.exit 0)) (.seq (.block 1 (.seq (.reg [⟨some 12, none, .mv (.t 10)⟩, ⟨some 7, none, .mv (.t 12)⟩]) (.seq (.reg [⟨some 13, none, .mv (.t 1)⟩, ⟨some 14, none, .mv (.t 7)⟩, ⟨some 15, none, .call fn_impl_places_has [.t 13, .t 14]⟩, ⟨some 16, none, .mv (.t 15)⟩, ⟨some 17, some (16, false), .mv (.t 7)⟩, ⟨some 18, some (16, false), .mv (.t 0)⟩, ⟨some 19, some (16, false), .len (.t 18)⟩, ⟨some 20, some (16, false), .bin .sub (.t 19) (.c (.int .i64 1))⟩, ⟨some 21, some (16, false), .bin .eql (.t 17) (.t 20)⟩, ⟨some 22, none, .pick (.t 16) (.c (.bool true)) (.t 21)⟩]) (.cond (.t 22) (.seq (.reg [⟨some 23, none, .mv (.t 5)⟩, ⟨some 24, none, .mv (.t 0)⟩, ⟨some 25, none, .mv (.t 6)⟩, ⟨some 26, none, .mv (.t 7)⟩, ⟨some 27, none, .bin .add (.t 26) (.c (.int .i64 1))⟩, ⟨some 28, none, .sl (.t 24) (some (.t 25)) (some (.t 27)) none 1⟩, ⟨some 29, none, .bsl 1 1 [.nilSlice] [(0, .t 28)]⟩, ⟨some 30, none, .app (.t 23) (.t 29) 1 24⟩, ⟨some 5, none, .mv (.t 30)⟩]) (.reg [⟨some 31, none, .mv (.t 7)⟩, ⟨some 32, none, .bin .add (.t 31) (.c (.int .i64 1))⟩, ⟨some 6, none, .mv (.t 32)⟩])) .skip)))) (.reg [⟨some 33, none, .bin .add (.t 10) (.c (.int .i64 1))⟩, ⟨some 10, none, .mv (.t 33)⟩]))))))) (.seq (.reg [⟨some 34, none, .mv (.t 5)⟩, ⟨some 4, none, .mv (.t 34)⟩]) .ret))))
theorem code_impl_piecesBehind : HasCode Try.prog fn_impl_piecesBehind mc_impl_piecesBehind [.t 4] 35 := ⟨mixed, Try.f25, _, Try.func25, rfl, by kernel_rfl, by kernel_rfl, rfl, by kernel_rfl, rfl⟩

def mc_impl_places_has : MC :=
  .seq (.reg [⟨some 4, none, .mv (.c (.bool false))⟩]) (.seq (.reg [⟨some 5, none, .mv (.t 0)⟩, ⟨some 6, none, .mv (.t 1)⟩, ⟨some 7, none, .bin .shr (.t 5) (.t 6)⟩, ⟨some 8, none, .bin .and (.t 7) (.c (.int .u64 1))⟩, ⟨some 9, none, .bin .eql (.t 8) (.c (.int .u64 1))⟩, ⟨some 4, none, .mv (.t 9)⟩]) .ret)
theorem code_impl_places_has : HasCode Try.prog fn_impl_places_has mc_impl_places_has [.t 4] 10 := ⟨mixed, Try.f27, _, Try.func27, rfl, by kernel_rfl, by kernel_rfl, rfl, by kernel_rfl, rfl⟩

end Go.Rx.Try
