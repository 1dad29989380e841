/-
  The code of each function of the program, taken up. Made by a program.
-/
import Derived.Test.YtpibmmkghedmaadProg
import Derived.Test.YtpibmmkghedmaadRxI
import Derived.KernelRfl
import Derived.Shelf.Sort.Plain
namespace Go.Proofs
open Go.Shelf
def Try.lays189_ren : Go.Shelf.Ren := ⟨fun | 189 => 24 | 125 => 27 | 257 => 26 | 128 => 37 | 129 => 38 | 294 => 28 | 295 => 29 | 296 => 30 | 297 => 31 | 298 => 32 | 299 => 33 | 216 => 34 | 300 => 35 | 301 => 36 | 328 => 39 | 329 => 40 | 330 => 41 | 331 => 42 | 332 => 43 | 215 => 44 | 343 => 45 | n => n, fun | 28 => 23 | 3 => 3 | 46 => 44 | 0 => 0 | 51 => 54 | 53 => 56 | 4 => 4 | 183 => 47 | 182 => 46 | 131 => 26 | 5 => 5 | 9 => 9 | 218 => 57 | 222 => 61 | 228 => 64 | 229 => 65 | n => n, fun | n => n⟩
theorem Try.lays189 : Go.Proofs.Lays.n189 Try.prog Try.lays189_ren := {
  mixed := by kernel_rfl
  f125 := Try.func27.trans (congrArg some (by kernel_rfl))
  f128 := Try.func37.trans (congrArg some (by kernel_rfl))
  f129 := Try.func38.trans (congrArg some (by kernel_rfl))
  f189 := Try.func24.trans (congrArg some (by kernel_rfl))
  f215 := Try.func44.trans (congrArg some (by kernel_rfl))
  f216 := Try.func34.trans (congrArg some (by kernel_rfl))
  f257 := Try.func26.trans (congrArg some (by kernel_rfl))
  f294 := Try.func28.trans (congrArg some (by kernel_rfl))
  f295 := Try.func29.trans (congrArg some (by kernel_rfl))
  f296 := Try.func30.trans (congrArg some (by kernel_rfl))
  f297 := Try.func31.trans (congrArg some (by kernel_rfl))
  f298 := Try.func32.trans (congrArg some (by kernel_rfl))
  f299 := Try.func33.trans (congrArg some (by kernel_rfl))
  f300 := Try.func35.trans (congrArg some (by kernel_rfl))
  f301 := Try.func36.trans (congrArg some (by kernel_rfl))
  f328 := Try.func39.trans (congrArg some (by kernel_rfl))
  f329 := Try.func40.trans (congrArg some (by kernel_rfl))
  f330 := Try.func41.trans (congrArg some (by kernel_rfl))
  f331 := Try.func42.trans (congrArg some (by kernel_rfl))
  f332 := Try.func43.trans (congrArg some (by kernel_rfl))
  f343 := Try.func45.trans (congrArg some (by kernel_rfl))
  t0 := Try.underlying0
  a0 := Try.isAgg0
  z0 := Try.sizeOf0
  v0 := Try.zeroValue0
  t3 := Try.underlying3
  a3 := Try.isAgg3
  z3 := Try.sizeOf3
  v3 := Try.zeroValue3
  t4 := Try.underlying4
  a4 := Try.isAgg4
  z4 := Try.sizeOf4
  v4 := Try.zeroValue4
  t5 := Try.underlying5
  a5 := Try.isAgg5
  z5 := Try.sizeOf5
  v5 := Try.zeroValue5
  t9 := Try.underlying9
  a9 := Try.isAgg9
  z9 := Try.sizeOf9
  v9 := Try.zeroValue9
  t28 := Try.underlying23
  a28 := Try.isAgg23
  z28 := Try.sizeOf23
  v28 := Try.zeroValue23
  t46 := Try.underlying44
  a46 := Try.isAgg44
  z46 := Try.sizeOf44
  v46 := Try.zeroValue44
  t51 := Try.underlying54
  a51 := Try.isAgg54
  z51 := Try.sizeOf54
  v51 := Try.zeroValue54
  t53 := Try.underlying56
  a53 := Try.isAgg56
  z53 := Try.sizeOf56
  v53 := Try.zeroValue56
  t131 := Try.underlying26
  a131 := Try.isAgg26
  z131 := Try.sizeOf26
  v131 := Try.zeroValue26
  t182 := Try.underlying46
  a182 := Try.isAgg46
  z182 := Try.sizeOf46
  v182 := Try.zeroValue46
  t183 := Try.underlying47
  a183 := Try.isAgg47
  z183 := Try.sizeOf47
  v183 := Try.zeroValue47
  t218 := Try.underlying57
  a218 := Try.isAgg57
  z218 := Try.sizeOf57
  v218 := Try.zeroValue57
  t222 := Try.underlying61
  a222 := Try.isAgg61
  z222 := Try.sizeOf61
  v222 := Try.zeroValue61
  t228 := Try.underlying64
  a228 := Try.isAgg64
  z228 := Try.sizeOf64
  v228 := Try.zeroValue64
  t229 := Try.underlying65
  a229 := Try.isAgg65
  z229 := Try.sizeOf65
  v229 := Try.zeroValue65 }
end Go.Proofs

namespace Go.Rx.Try
open Go.Proofs
set_option maxRecDepth 100000

abbrev sort_ren := Go.Proofs.Try.lays189_ren
theorem sort_lays : Go.Proofs.Lays.n189 Go.Proofs.Try.prog sort_ren := Go.Proofs.Try.lays189
abbrev fn_laws_FnShiftMiddle : FuncId := 3
abbrev fn_laws_FnExactShiftMiddle : FuncId := 4
abbrev fn_spec_DrawShiftMiddle : FuncId := 5
abbrev fn_impl_ShiftMiddle : FuncId := 6
abbrev fn_spec_ShiftMiddle : FuncId := 7
abbrev fn_laws_toIntS : FuncId := 8
abbrev fn_laws_eqIntS : FuncId := 9
abbrev fn_spec_twoSamples : FuncId := 10
abbrev fn_spec_newReader : FuncId := 11
abbrev fn_impl_validSamples : FuncId := 12
abbrev fn_impl_twiceMiddle : FuncId := 13
abbrev fn_spec_validSamples : FuncId := 14
abbrev fn_spec_middle : FuncId := 15
abbrev fn_spec_dataOf : FuncId := 16
abbrev fn_spec_reader_one : FuncId := 17
abbrev fn_impl_ValidData : FuncId := 18
abbrev fn_impl_sortedCopy : FuncId := 19
abbrev fn_spec_validData : FuncId := 20
abbrev fn_spec_sorted : FuncId := 21
abbrev fn_spec_reader_pick : FuncId := 22
abbrev fn_slices_Clone_ints : FuncId := 23
abbrev fn_slices_Sort_ints : FuncId := 24
abbrev fn_spec_inRange : FuncId := 25
abbrev fn_slices_pdqsortOrdered_int : FuncId := 26
abbrev fn_math_bits_Len : FuncId := 27
abbrev fn_slices_insertionSortOrdered_int : FuncId := 28
abbrev fn_slices_heapSortOrdered_int : FuncId := 29
abbrev fn_slices_breakPatternsOrdered_int : FuncId := 30
abbrev fn_slices_choosePivotOrdered_int : FuncId := 31
abbrev fn_slices_reverseRangeOrdered_int : FuncId := 32
abbrev fn_slices_partialInsertionSortOrdered_int : FuncId := 33
abbrev fn_cmp_Less_int : FuncId := 34
abbrev fn_slices_partitionEqualOrdered_int : FuncId := 35
abbrev fn_slices_partitionOrdered_int : FuncId := 36
abbrev fn_math_bits_Len32 : FuncId := 37
abbrev fn_math_bits_Len64 : FuncId := 38
abbrev fn_slices_siftDownOrdered_int : FuncId := 39
abbrev fn_slices_nextPowerOfTwo : FuncId := 40
abbrev fn_slices_xorshift_Next : FuncId := 41
abbrev fn_slices_medianAdjacentOrdered_int : FuncId := 42
abbrev fn_slices_medianOrdered_int : FuncId := 43
abbrev fn_cmp_isNaN_int : FuncId := 44
abbrev fn_slices_order2Ordered_int : FuncId := 45
abbrev fn_runtime_boundsError_Error : FuncId := 46
abbrev fn_runtime_boundsError_RuntimeError : FuncId := 47
abbrev fn_runtime_errorString_Error : FuncId := 48
abbrev fn_runtime_errorString_RuntimeError : FuncId := 49
abbrev fn_runtime_plainError_Error : FuncId := 50
abbrev fn_runtime_plainError_RuntimeError : FuncId := 51
abbrev fn_runtime_errorAddressString_Error : FuncId := 52
abbrev fn_runtime_errorAddressString_RuntimeError : FuncId := 53
abbrev fn_runtime_TypeAssertionError_Error : FuncId := 54
abbrev fn_runtime_TypeAssertionError_RuntimeError : FuncId := 55
abbrev fn_runtime_PanicNilError_Error : FuncId := 56
abbrev fn_runtime_PanicNilError_RuntimeError : FuncId := 57
abbrev fn_internal_abi_Type_Align : FuncId := 58
abbrev fn_internal_runtime_maps_unhashableTypeError_Error : FuncId := 59
abbrev fn_internal_runtime_maps_unhashableTypeError_RuntimeError : FuncId := 60
abbrev fn_internal_abi_Kind_String : FuncId := 61
abbrev ty_abi_BoundsErrorCode : TypeId := 6
abbrev ty_maps_unhashableTypeError : TypeId := 19
abbrev ty_spec_reader : TypeId := 37
abbrev ty_abi_TFlag : TypeId := 74
abbrev ty_abi_Kind : TypeId := 75
abbrev ty_abi_NameOff : TypeId := 78
abbrev ty_abi_TypeOff : TypeId := 79
abbrev ty_abi_Type : TypeId := 81
theorem mixed : Try.prog.follows .mixedOrders = true := by kernel_rfl

def mc_laws_FnShiftMiddle : MC :=
  .seq (.reg [⟨some 2, none, .mv (.c (.bool false))⟩]) (.seq (.seq (.reg [⟨some 13, none, .mv (.t 0)⟩, ⟨some 14, none, .len (.t 13)⟩, ⟨some 15, none, .bin .gtr (.t 14) (.c (.int .i64 1048576))⟩]) (.cond (.t 15) (.seq (.reg [⟨some 2, none, .mv (.c (.bool true))⟩]) .ret) .skip)) (.seq (.reg [⟨some 17, none, .mv (.t 0)⟩, ⟨some 18, none, .call fn_spec_DrawShiftMiddle [.t 17]⟩, ⟨some 16, none, .mv (.t 18)⟩, ⟨some 19, none, .ext (.t 16) 0⟩, ⟨some 20, none, .ext (.t 16) 1⟩, ⟨some 3, none, .mv (.t 19)⟩, ⟨some 4, none, .mv (.t 20)⟩]) (.seq (.reg [⟨some 22, none, .mv (.t 3)⟩, ⟨some 23, none, .mv (.t 4)⟩, ⟨some 24, none, .call fn_impl_ShiftMiddle [.t 22, .t 23]⟩, ⟨some 21, none, .mv (.t 24)⟩, ⟨some 25, none, .ext (.t 21) 0⟩, ⟨some 26, none, .ext (.t 21) 1⟩, ⟨some 5, none, .mv (.t 25)⟩, ⟨some 6, none, .mv (.t 26)⟩]) (.seq (.reg [⟨some 28, none, .mv (.t 3)⟩, ⟨some 29, none, .mv (.t 4)⟩, ⟨some 30, none, .call fn_spec_ShiftMiddle [.t 28, .t 29]⟩, ⟨some 27, none, .mv (.t 30)⟩, ⟨some 31, none, .ext (.t 27) 0⟩, ⟨some 32, none, .ext (.t 27) 1⟩, ⟨some 7, none, .mv (.t 31)⟩, ⟨some 8, none, .mv (.t 32)⟩]) (.seq (.seq (.reg [⟨some 33, none, .mv (.t 5)⟩, ⟨some 34, none, .mv (.t 7)⟩, ⟨some 35, none, .bin .neq (.t 33) (.t 34)⟩, ⟨some 36, none, .mv (.t 35)⟩, ⟨some 37, some (36, false), .mv (.t 6)⟩, ⟨some 38, some (36, false), .mv (.t 8)⟩, ⟨some 39, some (36, false), .beq true (.t 37) (.t 38)⟩, ⟨some 40, none, .pick (.t 36) (.c (.bool true)) (.t 39)⟩, ⟨some 41, none, .mv (.t 40)⟩, ⟨some 42, some (41, false), .mv (.t 6)⟩, ⟨some 43, some (41, false), .un .not (.t 42)⟩, ⟨some 44, none, .pick (.t 41) (.c (.bool true)) (.t 43)⟩]) (.cond (.t 44) (.seq (.reg [⟨some 45, none, .mv (.t 5)⟩, ⟨some 46, none, .mv (.t 7)⟩, ⟨some 47, none, .bin .eql (.t 45) (.t 46)⟩, ⟨some 48, none, .mv (.t 47)⟩, ⟨some 49, some (48, true), .mv (.t 6)⟩, ⟨some 50, some (48, true), .mv (.t 8)⟩, ⟨some 51, some (48, true), .beq false (.t 49) (.t 50)⟩, ⟨some 52, none, .pick (.t 48) (.t 51) (.c (.bool false))⟩, ⟨some 2, none, .mv (.t 52)⟩]) .ret) .skip)) (.seq (.reg [⟨some 54, none, .mv (.t 4)⟩, ⟨some 55, none, .mv (.t 3)⟩, ⟨some 56, none, .call fn_impl_ShiftMiddle [.t 54, .t 55]⟩, ⟨some 53, none, .mv (.t 56)⟩, ⟨some 57, none, .ext (.t 53) 0⟩, ⟨some 58, none, .ext (.t 53) 1⟩, ⟨some 9, none, .mv (.t 57)⟩, ⟨some 10, none, .mv (.t 58)⟩]) (.seq (.reg [⟨some 60, none, .mv (.t 3)⟩, ⟨some 61, none, .mv (.t 3)⟩, ⟨some 62, none, .call fn_impl_ShiftMiddle [.t 60, .t 61]⟩, ⟨some 59, none, .mv (.t 62)⟩, ⟨some 63, none, .ext (.t 59) 0⟩, ⟨some 64, none, .ext (.t 59) 1⟩, ⟨some 11, none, .mv (.t 63)⟩, ⟨some 12, none, .mv (.t 64)⟩]) (.seq (.reg [⟨some 65, none, .mv (.t 9)⟩, ⟨some 66, none, .mv (.t 5)⟩, ⟨some 67, none, .un .neg (.t 66)⟩, ⟨some 68, none, .bin .eql (.t 65) (.t 67)⟩, ⟨some 69, none, .mv (.t 68)⟩, ⟨some 70, some (69, true), .mv (.t 11)⟩, ⟨some 71, some (69, true), .bin .eql (.t 70) (.c (.int .i64 0))⟩, ⟨some 72, none, .pick (.t 69) (.t 71) (.c (.bool false))⟩, ⟨some 2, none, .mv (.t 72)⟩]) .ret))))))))
theorem code_laws_FnShiftMiddle : HasCode Try.prog fn_laws_FnShiftMiddle mc_laws_FnShiftMiddle [.t 2] 73 := ⟨mixed, Try.f3, _, Try.func3, rfl, by kernel_rfl, by kernel_rfl, rfl, by kernel_rfl⟩

def mc_spec_DrawShiftMiddle : MC :=
  .seq (.reg [⟨some 2, none, .mv (.c .nilSlice)⟩, ⟨some 3, none, .mv (.c .nilSlice)⟩]) (.seq (.reg [⟨some 4, none, .mv (.t 0)⟩, ⟨some 5, none, .call fn_spec_newReader [.t 4]⟩, ⟨some 6, none, .call fn_spec_twoSamples [.t 5]⟩, ⟨some 7, none, .ext (.t 6) 0⟩, ⟨some 8, none, .ext (.t 6) 1⟩, ⟨some 2, none, .mv (.t 7)⟩, ⟨some 3, none, .mv (.t 8)⟩]) .ret)
theorem code_spec_DrawShiftMiddle : HasCode Try.prog fn_spec_DrawShiftMiddle mc_spec_DrawShiftMiddle [.t 2, .t 3] 9 := ⟨mixed, Try.f5, _, Try.func5, rfl, by kernel_rfl, by kernel_rfl, rfl, by kernel_rfl⟩

def mc_impl_ShiftMiddle : MC :=
  .seq (.reg [⟨some 4, none, .mv (.c (.int .i64 0))⟩, ⟨some 5, none, .mv (.c (.bool false))⟩]) (.seq (.seq (.reg [⟨some 11, none, .mv (.t 0)⟩, ⟨some 12, none, .mv (.t 1)⟩, ⟨some 13, none, .call fn_impl_validSamples [.t 11, .t 12]⟩, ⟨some 14, none, .un .not (.t 13)⟩]) (.cond (.t 14) (.seq (.reg [⟨some 4, none, .mv (.c (.int .i64 0))⟩, ⟨some 5, none, .mv (.c (.bool false))⟩]) .ret) .skip)) (.seq (.reg [⟨some 6, none, .mv (.c .nilSlice)⟩]) (.seq (.seq (.reg [⟨some 15, none, .mv (.t 1)⟩, ⟨some 16, none, .len (.t 15)⟩, ⟨some 17, none, .mv (.c (.int .i64 0))⟩]) (.block 0 (.loop (.seq (.reg [⟨some 18, none, .bin .lss (.t 17) (.t 16)⟩]) (.seq (.cond (.t 18) .skip (.exit 0)) (.seq (.block 1 (.seq (.reg [⟨some 19, none, .ixa (.t 15) (.t 17) 1⟩, ⟨some 20, none, .ld (.t 19) 1 false⟩, ⟨some 8, none, .mv (.t 20)⟩]) (.seq (.reg [⟨some 21, none, .mv (.t 0)⟩, ⟨some 22, none, .len (.t 21)⟩, ⟨some 23, none, .mv (.c (.int .i64 0))⟩]) (.block 2 (.loop (.seq (.reg [⟨some 24, none, .bin .lss (.t 23) (.t 22)⟩]) (.seq (.cond (.t 24) .skip (.exit 2)) (.seq (.block 3 (.seq (.reg [⟨some 25, none, .ixa (.t 21) (.t 23) 1⟩, ⟨some 26, none, .ld (.t 25) 1 false⟩, ⟨some 10, none, .mv (.t 26)⟩]) (.reg [⟨some 27, none, .mv (.t 6)⟩, ⟨some 28, none, .mv (.t 8)⟩, ⟨some 29, none, .mv (.t 10)⟩, ⟨some 30, none, .bin .sub (.t 28) (.t 29)⟩, ⟨some 31, none, .bsl 1 1 [.int .i64 0] [(0, .t 30)]⟩, ⟨some 32, none, .app (.t 27) (.t 31) 1 8⟩, ⟨some 6, none, .mv (.t 32)⟩]))) (.reg [⟨some 33, none, .bin .add (.t 23) (.c (.int .i64 1))⟩, ⟨some 23, none, .mv (.t 33)⟩]))))))))) (.reg [⟨some 34, none, .bin .add (.t 17) (.c (.int .i64 1))⟩, ⟨some 17, none, .mv (.t 34)⟩]))))))) (.seq (.reg [⟨some 35, none, .mv (.t 6)⟩, ⟨some 36, none, .call fn_impl_twiceMiddle [.t 35]⟩, ⟨some 4, none, .mv (.t 36)⟩, ⟨some 5, none, .mv (.c (.bool true))⟩]) .ret))))
theorem code_impl_ShiftMiddle : HasCode Try.prog fn_impl_ShiftMiddle mc_impl_ShiftMiddle [.t 4, .t 5] 37 := ⟨mixed, Try.f6, _, Try.func6, rfl, by kernel_rfl, by kernel_rfl, rfl, by kernel_rfl⟩

def mc_spec_ShiftMiddle : MC :=
  .seq (.reg [⟨some 4, none, .mv (.c (.int .i64 0))⟩, ⟨some 5, none, .mv (.c (.bool false))⟩]) (.seq (.seq (.reg [⟨some 9, none, .mv (.t 0)⟩, ⟨some 10, none, .mv (.t 1)⟩, ⟨some 11, none, .call fn_spec_validSamples [.t 9, .t 10]⟩, ⟨some 12, none, .un .not (.t 11)⟩]) (.cond (.t 12) (.seq (.reg [⟨some 4, none, .mv (.c (.int .i64 0))⟩, ⟨some 5, none, .mv (.c (.bool false))⟩]) .ret) .skip)) (.seq (.reg [⟨some 13, none, .bsl 0 1 [.int .i64 0] []⟩, ⟨some 6, none, .mv (.t 13)⟩]) (.seq (.seq (.reg [⟨some 7, none, .mv (.c (.int .i64 0))⟩]) (.block 0 (.loop (.seq (.seq (.reg [⟨some 14, none, .mv (.t 7)⟩, ⟨some 15, none, .mv (.t 0)⟩, ⟨some 16, none, .len (.t 15)⟩, ⟨some 17, none, .bin .lss (.t 14) (.t 16)⟩]) (.cond (.t 17) .skip (.exit 0))) (.seq (.block 1 (.seq (.reg [⟨some 8, none, .mv (.c (.int .i64 0))⟩]) (.block 2 (.loop (.seq (.seq (.reg [⟨some 20, none, .mv (.t 8)⟩, ⟨some 21, none, .mv (.t 1)⟩, ⟨some 22, none, .len (.t 21)⟩, ⟨some 23, none, .bin .lss (.t 20) (.t 22)⟩]) (.cond (.t 23) .skip (.exit 2))) (.seq (.block 3 (.drw [⟨some 26, none, .mv (.t 6)⟩, ⟨some 27, none, .mv (.t 1)⟩, ⟨some 28, none, .mv (.t 8)⟩, ⟨some 29, none, .ixa (.t 27) (.t 28) 1⟩, ⟨some 30, none, .ld (.t 29) 1 false⟩, ⟨some 31, none, .mv (.t 0)⟩, ⟨some 32, none, .mv (.t 7)⟩, ⟨some 33, none, .ixa (.t 31) (.t 32) 1⟩, ⟨some 34, none, .ld (.t 33) 1 false⟩, ⟨some 35, none, .bin .sub (.t 30) (.t 34)⟩, ⟨some 36, none, .bsl 1 1 [.int .i64 0] [(0, .t 35)]⟩, ⟨some 37, none, .app (.t 26) (.t 36) 1 8⟩, ⟨some 6, none, .mv (.t 37)⟩] [])) (.reg [⟨some 24, none, .mv (.t 8)⟩, ⟨some 25, none, .bin .add (.t 24) (.c (.int .i64 1))⟩, ⟨some 8, none, .mv (.t 25)⟩]))))))) (.reg [⟨some 18, none, .mv (.t 7)⟩, ⟨some 19, none, .bin .add (.t 18) (.c (.int .i64 1))⟩, ⟨some 7, none, .mv (.t 19)⟩])))))) (.seq (.reg [⟨some 38, none, .mv (.t 6)⟩, ⟨some 39, none, .call fn_spec_middle [.t 38]⟩, ⟨some 4, none, .mv (.t 39)⟩, ⟨some 5, none, .mv (.c (.bool true))⟩]) .ret))))
theorem code_spec_ShiftMiddle : HasCode Try.prog fn_spec_ShiftMiddle mc_spec_ShiftMiddle [.t 4, .t 5] 40 := ⟨mixed, Try.f7, _, Try.func7, rfl, by kernel_rfl, by kernel_rfl, rfl, by kernel_rfl⟩

def mc_spec_twoSamples : MC :=
  .seq (.reg [⟨some 2, none, .mv (.c .nilSlice)⟩, ⟨some 3, none, .mv (.c .nilSlice)⟩]) (.seq (.reg [⟨some 5, none, .mv (.t 0)⟩, ⟨some 6, none, .mv (.t 0)⟩, ⟨some 7, none, .bsl 6 1 [.int .i64 0] [(0, .c (.int .i64 3)), (1, .c (.int .i64 2)), (2, .c (.int .i64 4)), (3, .c (.int .i64 1)), (4, .c (.int .i64 5)), (5, .c (.int .i64 0))]⟩, ⟨some 8, none, .call fn_spec_reader_one [.t 6, .t 7]⟩, ⟨some 9, none, .call fn_spec_dataOf [.t 5, .t 8]⟩, ⟨some 4, none, .mv (.t 9)⟩]) (.seq (.reg [⟨some 10, none, .mv (.t 4)⟩, ⟨some 11, none, .mv (.t 0)⟩, ⟨some 12, none, .mv (.t 0)⟩, ⟨some 13, none, .bsl 7 1 [.int .i64 0] [(0, .c (.int .i64 3)), (1, .c (.int .i64 4)), (2, .c (.int .i64 2)), (3, .c (.int .i64 1)), (4, .c (.int .i64 5)), (5, .c (.int .i64 0)), (6, .c (.int .i64 6))]⟩, ⟨some 14, none, .call fn_spec_reader_one [.t 12, .t 13]⟩, ⟨some 15, none, .call fn_spec_dataOf [.t 11, .t 14]⟩, ⟨some 2, none, .mv (.t 10)⟩, ⟨some 3, none, .mv (.t 15)⟩]) .ret))
theorem code_spec_twoSamples : HasCode Try.prog fn_spec_twoSamples mc_spec_twoSamples [.t 2, .t 3] 16 := ⟨mixed, Try.f10, _, Try.func10, rfl, by kernel_rfl, by kernel_rfl, rfl, by kernel_rfl⟩

def mc_spec_newReader : MC :=
  .seq (.reg [⟨some 2, none, .mv (.c .nilPtr)⟩]) (.seq (.seq (.reg [⟨some 3, none, .mv (.t 0)⟩, ⟨some 4, none, .len (.t 3)⟩, ⟨some 5, none, .bin .gtr (.t 4) (.c (.int .i64 2000))⟩]) (.cond (.t 5) (.reg [⟨some 6, none, .mv (.t 0)⟩, ⟨some 7, none, .sl (.t 6) none (some (.c (.int .i64 2000))) none 1⟩, ⟨some 0, none, .mv (.t 7)⟩]) .skip)) (.seq (.reg [⟨some 8, none, .mv (.t 0)⟩, ⟨some 9, none, .bld [.nilSlice, .int .i64 0] [(0, 1, .t 8)]⟩, ⟨some 10, none, .box (.t 9)⟩, ⟨some 2, none, .mv (.t 10)⟩]) .ret))
theorem code_spec_newReader : HasCode Try.prog fn_spec_newReader mc_spec_newReader [.t 2] 11 := ⟨mixed, Try.f11, _, Try.func11, rfl, by kernel_rfl, by kernel_rfl, rfl, by kernel_rfl⟩

def mc_impl_validSamples : MC :=
  .seq (.reg [⟨some 4, none, .mv (.c (.bool false))⟩]) (.seq (.reg [⟨some 5, none, .mv (.t 0)⟩, ⟨some 6, none, .len (.t 5)⟩, ⟨some 7, none, .bin .gtr (.t 6) (.c (.int .i64 0))⟩, ⟨some 8, none, .mv (.t 7)⟩, ⟨some 9, some (8, true), .mv (.t 1)⟩, ⟨some 10, some (8, true), .len (.t 9)⟩, ⟨some 11, some (8, true), .bin .gtr (.t 10) (.c (.int .i64 0))⟩, ⟨some 12, none, .pick (.t 8) (.t 11) (.c (.bool false))⟩, ⟨some 13, none, .mv (.t 12)⟩, ⟨some 14, some (13, true), .mv (.t 0)⟩, ⟨some 15, some (13, true), .len (.t 14)⟩, ⟨some 16, some (13, true), .mv (.t 1)⟩, ⟨some 17, some (13, true), .len (.t 16)⟩, ⟨some 18, some (13, true), .bin .add (.t 15) (.t 17)⟩, ⟨some 19, some (13, true), .bin .leq (.t 18) (.c (.int .i64 10))⟩, ⟨some 20, none, .pick (.t 13) (.t 19) (.c (.bool false))⟩, ⟨some 21, none, .mv (.t 20)⟩, ⟨some 22, some (21, true), .mv (.t 0)⟩, ⟨some 23, some (21, true), .call fn_impl_ValidData [.t 22]⟩, ⟨some 24, none, .pick (.t 21) (.t 23) (.c (.bool false))⟩, ⟨some 25, none, .mv (.t 24)⟩, ⟨some 26, some (25, true), .mv (.t 1)⟩, ⟨some 27, some (25, true), .call fn_impl_ValidData [.t 26]⟩, ⟨some 28, none, .pick (.t 25) (.t 27) (.c (.bool false))⟩, ⟨some 4, none, .mv (.t 28)⟩]) .ret)
theorem code_impl_validSamples : HasCode Try.prog fn_impl_validSamples mc_impl_validSamples [.t 4] 29 := ⟨mixed, Try.f12, _, Try.func12, rfl, by kernel_rfl, by kernel_rfl, rfl, by kernel_rfl⟩

def mc_impl_twiceMiddle : MC :=
  .seq (.reg [⟨some 2, none, .mv (.c (.int .i64 0))⟩]) (.seq (.reg [⟨some 4, none, .mv (.t 0)⟩, ⟨some 5, none, .call fn_impl_sortedCopy [.t 4]⟩, ⟨some 3, none, .mv (.t 5)⟩]) (.seq (.drq [⟨some 6, none, .mv (.t 3)⟩, ⟨some 7, none, .mv (.t 3)⟩, ⟨some 8, none, .len (.t 7)⟩, ⟨some 9, none, .bin .sub (.t 8) (.c (.int .i64 1))⟩, ⟨some 10, none, .bin .quo (.t 9) (.c (.int .i64 2))⟩, ⟨some 11, none, .ixa (.t 6) (.t 10) 1⟩, ⟨some 12, none, .ld (.t 11) 1 false⟩, ⟨some 13, none, .mv (.t 3)⟩, ⟨some 14, none, .mv (.t 3)⟩, ⟨some 15, none, .len (.t 14)⟩, ⟨some 16, none, .bin .quo (.t 15) (.c (.int .i64 2))⟩, ⟨some 17, none, .ixa (.t 13) (.t 16) 1⟩, ⟨some 18, none, .ld (.t 17) 1 false⟩, ⟨some 19, none, .bin .add (.t 12) (.t 18)⟩, ⟨some 2, none, .mv (.t 19)⟩]) .ret))
theorem code_impl_twiceMiddle : HasCode Try.prog fn_impl_twiceMiddle mc_impl_twiceMiddle [.t 2] 20 := ⟨mixed, Try.f13, _, Try.func13, rfl, by kernel_rfl, by kernel_rfl, rfl, by kernel_rfl⟩

def mc_spec_validSamples : MC :=
  .seq (.reg [⟨some 4, none, .mv (.c (.bool false))⟩]) (.seq (.reg [⟨some 5, none, .mv (.t 0)⟩, ⟨some 6, none, .call fn_spec_validData [.t 5]⟩, ⟨some 7, none, .mv (.t 6)⟩, ⟨some 8, some (7, true), .mv (.t 1)⟩, ⟨some 9, some (7, true), .call fn_spec_validData [.t 8]⟩, ⟨some 10, none, .pick (.t 7) (.t 9) (.c (.bool false))⟩, ⟨some 11, none, .mv (.t 10)⟩, ⟨some 12, some (11, true), .mv (.t 0)⟩, ⟨some 13, some (11, true), .len (.t 12)⟩, ⟨some 14, some (11, true), .mv (.t 1)⟩, ⟨some 15, some (11, true), .len (.t 14)⟩, ⟨some 16, some (11, true), .bin .add (.t 13) (.t 15)⟩, ⟨some 17, some (11, true), .bin .leq (.t 16) (.c (.int .i64 10))⟩, ⟨some 18, none, .pick (.t 11) (.t 17) (.c (.bool false))⟩, ⟨some 19, none, .mv (.t 18)⟩, ⟨some 20, some (19, true), .mv (.t 0)⟩, ⟨some 21, some (19, true), .len (.t 20)⟩, ⟨some 22, some (19, true), .bin .gtr (.t 21) (.c (.int .i64 0))⟩, ⟨some 23, none, .pick (.t 19) (.t 22) (.c (.bool false))⟩, ⟨some 24, none, .mv (.t 23)⟩, ⟨some 25, some (24, true), .mv (.t 1)⟩, ⟨some 26, some (24, true), .len (.t 25)⟩, ⟨some 27, some (24, true), .bin .gtr (.t 26) (.c (.int .i64 0))⟩, ⟨some 28, none, .pick (.t 24) (.t 27) (.c (.bool false))⟩, ⟨some 4, none, .mv (.t 28)⟩]) .ret)
theorem code_spec_validSamples : HasCode Try.prog fn_spec_validSamples mc_spec_validSamples [.t 4] 29 := ⟨mixed, Try.f14, _, Try.func14, rfl, by kernel_rfl, by kernel_rfl, rfl, by kernel_rfl⟩

def mc_spec_middle : MC :=
  .seq (.reg [⟨some 2, none, .mv (.c (.int .i64 0))⟩]) (.seq (.reg [⟨some 5, none, .mv (.t 0)⟩, ⟨some 6, none, .call fn_spec_sorted [.t 5]⟩, ⟨some 3, none, .mv (.t 6)⟩]) (.seq (.reg [⟨some 7, none, .mv (.t 3)⟩, ⟨some 8, none, .len (.t 7)⟩, ⟨some 4, none, .mv (.t 8)⟩]) (.seq (.drq [⟨some 9, none, .mv (.t 3)⟩, ⟨some 10, none, .mv (.t 4)⟩, ⟨some 11, none, .bin .sub (.t 10) (.c (.int .i64 1))⟩, ⟨some 12, none, .bin .quo (.t 11) (.c (.int .i64 2))⟩, ⟨some 13, none, .ixa (.t 9) (.t 12) 1⟩, ⟨some 14, none, .ld (.t 13) 1 false⟩, ⟨some 15, none, .mv (.t 3)⟩, ⟨some 16, none, .mv (.t 4)⟩, ⟨some 17, none, .bin .quo (.t 16) (.c (.int .i64 2))⟩, ⟨some 18, none, .ixa (.t 15) (.t 17) 1⟩, ⟨some 19, none, .ld (.t 18) 1 false⟩, ⟨some 20, none, .bin .add (.t 14) (.t 19)⟩, ⟨some 2, none, .mv (.t 20)⟩]) .ret)))
theorem code_spec_middle : HasCode Try.prog fn_spec_middle mc_spec_middle [.t 2] 21 := ⟨mixed, Try.f15, _, Try.func15, rfl, by kernel_rfl, by kernel_rfl, rfl, by kernel_rfl⟩

def mc_spec_dataOf : MC :=
  .seq (.reg [⟨some 4, none, .mv (.c .nilSlice)⟩]) (.seq (.reg [⟨some 7, none, .bsl 0 1 [.int .i64 0] []⟩, ⟨some 5, none, .mv (.t 7)⟩]) (.seq (.reg [⟨some 8, none, .mv (.t 0)⟩, ⟨some 9, none, .bsl 4 1 [.int .i64 0] [(0, .c (.int .i64 3)), (1, .c (.int .i64 10)), (2, .c (.int .i64 40)), (3, .c (.int .i64 200))]⟩, ⟨some 10, none, .call fn_spec_reader_one [.t 8, .t 9]⟩, ⟨some 6, none, .mv (.t 10)⟩]) (.seq (.block 0 (.loop (.seq (.seq (.reg [⟨some 11, none, .mv (.t 5)⟩, ⟨some 12, none, .len (.t 11)⟩, ⟨some 13, none, .mv (.t 1)⟩, ⟨some 14, none, .bin .lss (.t 12) (.t 13)⟩]) (.cond (.t 14) .skip (.exit 0))) (.block 1 (.reg [⟨some 15, none, .mv (.t 5)⟩, ⟨some 16, none, .mv (.t 0)⟩, ⟨some 17, none, .mv (.t 6)⟩, ⟨some 18, none, .bin .mul (.c (.int .i64 2)) (.t 17)⟩, ⟨some 19, none, .bin .add (.t 18) (.c (.int .i64 1))⟩, ⟨some 20, none, .call fn_spec_reader_pick [.t 16, .t 19]⟩, ⟨some 21, none, .bin .rem (.t 20) (.c (.int .i64 401))⟩, ⟨some 22, none, .mv (.t 6)⟩, ⟨some 23, none, .bin .sub (.t 21) (.t 22)⟩, ⟨some 24, none, .bsl 1 1 [.int .i64 0] [(0, .t 23)]⟩, ⟨some 25, none, .app (.t 15) (.t 24) 1 8⟩, ⟨some 5, none, .mv (.t 25)⟩]))))) (.seq (.seq (.reg [⟨some 26, none, .mv (.t 0)⟩, ⟨some 27, none, .call fn_spec_reader_pick [.t 26, .c (.int .i64 40)]⟩]) (.block 2 (.seq (.reg [⟨some 29, none, .bin .eql (.t 27) (.c (.int .i64 0))⟩, ⟨some 28, none, .mv (.t 29)⟩]) (.cond (.t 28) (.seq (.reg [⟨some 30, none, .mv (.t 5)⟩, ⟨some 31, none, .mv (.t 0)⟩, ⟨some 32, none, .bsl 2 1 [.int .i64 0] [(0, .c (.int .i64 201)), (1, .c (.int .i64 (-201)))]⟩, ⟨some 33, none, .call fn_spec_reader_one [.t 31, .t 32]⟩, ⟨some 34, none, .bsl 1 1 [.int .i64 0] [(0, .t 33)]⟩, ⟨some 35, none, .app (.t 30) (.t 34) 1 8⟩, ⟨some 4, none, .mv (.t 35)⟩]) .ret) (.seq (.reg [⟨some 37, none, .bin .eql (.t 27) (.c (.int .i64 1))⟩, ⟨some 36, none, .mv (.t 37)⟩]) (.cond (.t 36) (.seq (.reg [⟨some 38, none, .mv (.t 5)⟩, ⟨some 39, none, .bsl 11 1 [.int .i64 0] [(0, .c (.int .i64 1)), (1, .c (.int .i64 2)), (2, .c (.int .i64 3)), (3, .c (.int .i64 4)), (4, .c (.int .i64 5)), (5, .c (.int .i64 6)), (6, .c (.int .i64 7)), (7, .c (.int .i64 8)), (8, .c (.int .i64 9)), (9, .c (.int .i64 10)), (10, .c (.int .i64 11))]⟩, ⟨some 40, none, .app (.t 38) (.t 39) 1 8⟩, ⟨some 4, none, .mv (.t 40)⟩]) .ret) .skip)))))) (.seq (.reg [⟨some 41, none, .mv (.t 5)⟩, ⟨some 4, none, .mv (.t 41)⟩]) .ret)))))
theorem code_spec_dataOf : HasCode Try.prog fn_spec_dataOf mc_spec_dataOf [.t 4] 42 := ⟨mixed, Try.f16, _, Try.func16, rfl, by kernel_rfl, by kernel_rfl, rfl, by kernel_rfl⟩

def mc_spec_reader_one : MC :=
  .seq (.reg [⟨some 4, none, .mv (.c (.int .i64 0))⟩]) (.seq (.reg [⟨some 5, none, .mv (.t 1)⟩, ⟨some 6, none, .mv (.t 0)⟩, ⟨some 7, none, .mv (.t 1)⟩, ⟨some 8, none, .len (.t 7)⟩, ⟨some 9, none, .call fn_spec_reader_pick [.t 6, .t 8]⟩, ⟨some 10, none, .ixa (.t 5) (.t 9) 1⟩, ⟨some 11, none, .ld (.t 10) 1 false⟩, ⟨some 4, none, .mv (.t 11)⟩]) .ret)
theorem code_spec_reader_one : HasCode Try.prog fn_spec_reader_one mc_spec_reader_one [.t 4] 12 := ⟨mixed, Try.f17, _, Try.func17, rfl, by kernel_rfl, by kernel_rfl, rfl, by kernel_rfl⟩

def mc_impl_ValidData : MC :=
  .seq (.reg [⟨some 2, none, .mv (.c (.bool false))⟩]) (.seq (.seq (.reg [⟨some 5, none, .mv (.t 0)⟩, ⟨some 6, none, .len (.t 5)⟩, ⟨some 7, none, .bin .gtr (.t 6) (.c (.int .i64 10))⟩]) (.cond (.t 7) (.seq (.reg [⟨some 2, none, .mv (.c (.bool false))⟩]) .ret) .skip)) (.seq (.seq (.reg [⟨some 8, none, .mv (.t 0)⟩, ⟨some 9, none, .len (.t 8)⟩, ⟨some 10, none, .mv (.c (.int .i64 0))⟩]) (.block 0 (.loop (.seq (.reg [⟨some 11, none, .bin .lss (.t 10) (.t 9)⟩]) (.seq (.cond (.t 11) .skip (.exit 0)) (.seq (.block 1 (.seq (.reg [⟨some 12, none, .ixa (.t 8) (.t 10) 1⟩, ⟨some 13, none, .ld (.t 12) 1 false⟩, ⟨some 4, none, .mv (.t 13)⟩]) (.seq (.reg [⟨some 14, none, .mv (.t 4)⟩, ⟨some 15, none, .bin .lss (.t 14) (.c (.int .i64 (-200)))⟩, ⟨some 16, none, .mv (.t 15)⟩, ⟨some 17, some (16, false), .mv (.t 4)⟩, ⟨some 18, some (16, false), .bin .gtr (.t 17) (.c (.int .i64 200))⟩, ⟨some 19, none, .pick (.t 16) (.c (.bool true)) (.t 18)⟩]) (.cond (.t 19) (.seq (.reg [⟨some 2, none, .mv (.c (.bool false))⟩]) .ret) .skip)))) (.reg [⟨some 20, none, .bin .add (.t 10) (.c (.int .i64 1))⟩, ⟨some 10, none, .mv (.t 20)⟩]))))))) (.seq (.reg [⟨some 2, none, .mv (.c (.bool true))⟩]) .ret)))
theorem code_impl_ValidData : HasCode Try.prog fn_impl_ValidData mc_impl_ValidData [.t 2] 21 := ⟨mixed, Try.f18, _, Try.func18, rfl, by kernel_rfl, by kernel_rfl, rfl, by kernel_rfl⟩

def mc_impl_sortedCopy : MC :=
  .seq (.reg [⟨some 2, none, .mv (.c .nilSlice)⟩]) (.seq (.reg [⟨some 4, none, .mv (.t 0)⟩, ⟨some 5, none, .call fn_slices_Clone_ints [.t 4]⟩, ⟨some 3, none, .mv (.t 5)⟩]) (.seq (.reg [⟨some 6, none, .mv (.t 3)⟩, ⟨some 7, none, .call fn_slices_Sort_ints [.t 6]⟩]) (.seq (.reg [⟨some 8, none, .mv (.t 3)⟩, ⟨some 2, none, .mv (.t 8)⟩]) .ret)))
theorem code_impl_sortedCopy : HasCode Try.prog fn_impl_sortedCopy mc_impl_sortedCopy [.t 2] 9 := ⟨mixed, Try.f19, _, Try.func19, rfl, by kernel_rfl, by kernel_rfl, rfl, by kernel_rfl⟩

def mc_spec_validData : MC :=
  .seq (.reg [⟨some 2, none, .mv (.c (.bool false))⟩]) (.seq (.seq (.reg [⟨some 3, none, .mv (.c (.int .i64 0))⟩]) (.block 0 (.loop (.seq (.seq (.reg [⟨some 4, none, .mv (.t 3)⟩, ⟨some 5, none, .mv (.t 0)⟩, ⟨some 6, none, .len (.t 5)⟩, ⟨some 7, none, .bin .lss (.t 4) (.t 6)⟩]) (.cond (.t 7) .skip (.exit 0))) (.seq (.block 1 (.seq (.reg [⟨some 10, none, .mv (.t 0)⟩, ⟨some 11, none, .mv (.t 3)⟩, ⟨some 12, none, .ixa (.t 10) (.t 11) 1⟩, ⟨some 13, none, .ld (.t 12) 1 false⟩, ⟨some 14, none, .call fn_spec_inRange [.t 13, .c (.int .i64 (-200)), .c (.int .i64 200)]⟩, ⟨some 15, none, .un .not (.t 14)⟩]) (.cond (.t 15) (.seq (.reg [⟨some 2, none, .mv (.c (.bool false))⟩]) .ret) .skip))) (.reg [⟨some 8, none, .mv (.t 3)⟩, ⟨some 9, none, .bin .add (.t 8) (.c (.int .i64 1))⟩, ⟨some 3, none, .mv (.t 9)⟩])))))) (.seq (.reg [⟨some 16, none, .mv (.t 0)⟩, ⟨some 17, none, .len (.t 16)⟩, ⟨some 18, none, .bin .leq (.t 17) (.c (.int .i64 10))⟩, ⟨some 2, none, .mv (.t 18)⟩]) .ret))
theorem code_spec_validData : HasCode Try.prog fn_spec_validData mc_spec_validData [.t 2] 19 := ⟨mixed, Try.f20, _, Try.func20, rfl, by kernel_rfl, by kernel_rfl, rfl, by kernel_rfl⟩

def mc_spec_sorted : MC :=
  .seq (.reg [⟨some 2, none, .mv (.c .nilSlice)⟩]) (.seq (.reg [⟨some 6, none, .bsl 0 1 [.int .i64 0] []⟩, ⟨some 3, none, .mv (.t 6)⟩]) (.seq (.seq (.reg [⟨some 4, none, .mv (.c (.int .i64 0))⟩]) (.block 0 (.loop (.seq (.seq (.reg [⟨some 7, none, .mv (.t 4)⟩, ⟨some 8, none, .mv (.t 0)⟩, ⟨some 9, none, .len (.t 8)⟩, ⟨some 10, none, .bin .lss (.t 7) (.t 9)⟩]) (.cond (.t 10) .skip (.exit 0))) (.seq (.block 1 (.seq (.reg [⟨some 5, none, .mv (.c (.int .i64 0))⟩]) (.seq (.block 2 (.loop (.seq (.seq (.drq [⟨some 13, none, .mv (.t 5)⟩, ⟨some 14, none, .mv (.t 3)⟩, ⟨some 15, none, .len (.t 14)⟩, ⟨some 16, none, .bin .lss (.t 13) (.t 15)⟩, ⟨some 17, none, .mv (.t 16)⟩, ⟨some 18, some (17, true), .mv (.t 3)⟩, ⟨some 19, some (17, true), .mv (.t 5)⟩, ⟨some 20, some (17, true), .ixa (.t 18) (.t 19) 1⟩, ⟨some 21, some (17, true), .ld (.t 20) 1 false⟩, ⟨some 22, some (17, true), .mv (.t 0)⟩, ⟨some 23, some (17, true), .mv (.t 4)⟩, ⟨some 24, some (17, true), .ixa (.t 22) (.t 23) 1⟩, ⟨some 25, some (17, true), .ld (.t 24) 1 false⟩, ⟨some 26, some (17, true), .bin .leq (.t 21) (.t 25)⟩, ⟨some 27, none, .pick (.t 17) (.t 26) (.c (.bool false))⟩]) (.cond (.t 27) .skip (.exit 2))) (.block 3 (.reg [⟨some 28, none, .mv (.t 5)⟩, ⟨some 29, none, .bin .add (.t 28) (.c (.int .i64 1))⟩, ⟨some 5, none, .mv (.t 29)⟩]))))) (.drw [⟨some 30, none, .bsl 0 1 [.int .i64 0] []⟩, ⟨some 31, none, .mv (.t 3)⟩, ⟨some 32, none, .mv (.t 5)⟩, ⟨some 33, none, .sl (.t 31) none (some (.t 32)) none 1⟩, ⟨some 34, none, .app (.t 30) (.t 33) 1 8⟩, ⟨some 35, none, .mv (.t 0)⟩, ⟨some 36, none, .mv (.t 4)⟩, ⟨some 37, none, .ixa (.t 35) (.t 36) 1⟩, ⟨some 38, none, .ld (.t 37) 1 false⟩, ⟨some 39, none, .bsl 1 1 [.int .i64 0] [(0, .t 38)]⟩, ⟨some 40, none, .app (.t 34) (.t 39) 1 8⟩, ⟨some 41, none, .mv (.t 3)⟩, ⟨some 42, none, .mv (.t 5)⟩, ⟨some 43, none, .sl (.t 41) (some (.t 42)) none none 1⟩, ⟨some 44, none, .app (.t 40) (.t 43) 1 8⟩, ⟨some 3, none, .mv (.t 44)⟩] [(0, 8), (4, 8), (0, 9), (4, 9)])))) (.reg [⟨some 11, none, .mv (.t 4)⟩, ⟨some 12, none, .bin .add (.t 11) (.c (.int .i64 1))⟩, ⟨some 4, none, .mv (.t 12)⟩])))))) (.seq (.reg [⟨some 45, none, .mv (.t 3)⟩, ⟨some 2, none, .mv (.t 45)⟩]) .ret)))
theorem code_spec_sorted : HasCode Try.prog fn_spec_sorted mc_spec_sorted [.t 2] 46 := ⟨mixed, Try.f21, _, Try.func21, rfl, by kernel_rfl, by kernel_rfl, rfl, by kernel_rfl⟩

def mc_spec_reader_pick : MC :=
  .seq (.reg [⟨some 4, none, .mv (.c (.int .i64 0))⟩]) (.seq (.reg [⟨some 7, none, .mv (.t 0)⟩, ⟨some 8, none, .mv (.t 0)⟩, ⟨some 9, none, .nilck (.t 8)⟩, ⟨some 10, none, .fa (.t 9) 1⟩, ⟨some 11, none, .ld (.t 10) 1 false⟩, ⟨some 12, none, .bin .add (.t 11) (.c (.int .i64 1))⟩, ⟨some 13, none, .nilck (.t 7)⟩, ⟨some 14, none, .fa (.t 13) 1⟩, ⟨none, none, .st (.t 14) (.t 12) 1⟩]) (.seq (.seq (.reg [⟨some 15, none, .mv (.t 1)⟩, ⟨some 16, none, .bin .lss (.t 15) (.c (.int .i64 1))⟩, ⟨some 17, none, .mv (.t 16)⟩, ⟨some 18, some (17, false), .mv (.t 0)⟩, ⟨some 19, some (17, false), .nilck (.t 18)⟩, ⟨some 20, some (17, false), .fa (.t 19) 0⟩, ⟨some 21, some (17, false), .ld (.t 20) 1 false⟩, ⟨some 22, some (17, false), .len (.t 21)⟩, ⟨some 23, some (17, false), .bin .eql (.t 22) (.c (.int .i64 0))⟩, ⟨some 24, none, .pick (.t 17) (.c (.bool true)) (.t 23)⟩]) (.cond (.t 24) (.seq (.reg [⟨some 4, none, .mv (.c (.int .i64 0))⟩]) .ret) .skip)) (.seq (.reg [⟨some 25, none, .mv (.t 0)⟩, ⟨some 26, none, .nilck (.t 25)⟩, ⟨some 27, none, .fa (.t 26) 1⟩, ⟨some 28, none, .ld (.t 27) 1 false⟩, ⟨some 29, none, .bin .sub (.t 28) (.c (.int .i64 1))⟩, ⟨some 5, none, .mv (.t 29)⟩]) (.seq (.seq (.reg [⟨some 30, none, .mv (.t 5)⟩, ⟨some 31, none, .mv (.t 0)⟩, ⟨some 32, none, .nilck (.t 31)⟩, ⟨some 33, none, .fa (.t 32) 0⟩, ⟨some 34, none, .ld (.t 33) 1 false⟩, ⟨some 35, none, .len (.t 34)⟩, ⟨some 36, none, .bin .lss (.t 30) (.t 35)⟩]) (.cond (.t 36) (.seq (.reg [⟨some 37, none, .mv (.t 0)⟩, ⟨some 38, none, .nilck (.t 37)⟩, ⟨some 39, none, .fa (.t 38) 0⟩, ⟨some 40, none, .ld (.t 39) 1 false⟩, ⟨some 41, none, .mv (.t 5)⟩, ⟨some 42, none, .ixa (.t 40) (.t 41) 1⟩, ⟨some 43, none, .ld (.t 42) 1 false⟩, ⟨some 44, none, .conv .i64 (.t 43)⟩, ⟨some 45, none, .mv (.t 1)⟩, ⟨some 46, none, .bin .rem (.t 44) (.t 45)⟩, ⟨some 4, none, .mv (.t 46)⟩]) .ret) .skip)) (.seq (.drq [⟨some 47, none, .mv (.t 0)⟩, ⟨some 48, none, .nilck (.t 47)⟩, ⟨some 49, none, .fa (.t 48) 0⟩, ⟨some 50, none, .ld (.t 49) 1 false⟩, ⟨some 51, none, .mv (.t 5)⟩, ⟨some 52, none, .mv (.t 0)⟩, ⟨some 53, none, .nilck (.t 52)⟩, ⟨some 54, none, .fa (.t 53) 0⟩, ⟨some 55, none, .ld (.t 54) 1 false⟩, ⟨some 56, none, .len (.t 55)⟩, ⟨some 57, none, .bin .rem (.t 51) (.t 56)⟩, ⟨some 58, none, .ixa (.t 50) (.t 57) 1⟩, ⟨some 59, none, .ld (.t 58) 1 false⟩, ⟨some 60, none, .conv .i64 (.t 59)⟩, ⟨some 61, none, .bin .mul (.t 60) (.c (.int .i64 131))⟩, ⟨some 62, none, .mv (.t 0)⟩, ⟨some 63, none, .nilck (.t 62)⟩, ⟨some 64, none, .fa (.t 63) 0⟩, ⟨some 65, none, .ld (.t 64) 1 false⟩, ⟨some 66, none, .mv (.t 5)⟩, ⟨some 67, none, .bin .mul (.t 66) (.c (.int .i64 7))⟩, ⟨some 68, none, .bin .add (.t 67) (.c (.int .i64 3))⟩, ⟨some 69, none, .mv (.t 0)⟩, ⟨some 70, none, .nilck (.t 69)⟩, ⟨some 71, none, .fa (.t 70) 0⟩, ⟨some 72, none, .ld (.t 71) 1 false⟩, ⟨some 73, none, .len (.t 72)⟩, ⟨some 74, none, .bin .rem (.t 68) (.t 73)⟩, ⟨some 75, none, .ixa (.t 65) (.t 74) 1⟩, ⟨some 76, none, .ld (.t 75) 1 false⟩, ⟨some 77, none, .conv .i64 (.t 76)⟩, ⟨some 78, none, .bin .mul (.t 77) (.c (.int .i64 1117))⟩, ⟨some 79, none, .bin .add (.t 61) (.t 78)⟩, ⟨some 80, none, .mv (.t 5)⟩, ⟨some 81, none, .bin .mul (.t 80) (.c (.int .i64 29))⟩, ⟨some 82, none, .bin .add (.t 79) (.t 81)⟩, ⟨some 83, none, .mv (.t 5)⟩, ⟨some 84, none, .mv (.t 0)⟩, ⟨some 85, none, .nilck (.t 84)⟩, ⟨some 86, none, .fa (.t 85) 0⟩, ⟨some 87, none, .ld (.t 86) 1 false⟩, ⟨some 88, none, .len (.t 87)⟩, ⟨some 89, none, .bin .quo (.t 83) (.t 88)⟩, ⟨some 90, none, .bin .mul (.t 89) (.c (.int .i64 53))⟩, ⟨some 91, none, .bin .add (.t 82) (.t 90)⟩, ⟨some 6, none, .mv (.t 91)⟩]) (.seq (.reg [⟨some 92, none, .mv (.t 6)⟩, ⟨some 93, none, .mv (.t 6)⟩, ⟨some 94, none, .bin .quo (.t 93) (.c (.int .i64 64))⟩, ⟨some 95, none, .bin .xor (.t 92) (.t 94)⟩, ⟨some 6, none, .mv (.t 95)⟩]) (.seq (.reg [⟨some 96, none, .mv (.t 6)⟩, ⟨some 97, none, .mv (.t 1)⟩, ⟨some 98, none, .bin .rem (.t 96) (.t 97)⟩, ⟨some 4, none, .mv (.t 98)⟩]) .ret)))))))
theorem code_spec_reader_pick : HasCode Try.prog fn_spec_reader_pick mc_spec_reader_pick [.t 4] 99 := ⟨mixed, Try.f22, _, Try.func22, rfl, by kernel_rfl, by kernel_rfl, rfl, by kernel_rfl⟩

def mc_slices_Clone_ints : MC :=
  .seq (.reg [⟨some 2, none, .mv (.c .nilSlice)⟩]) (.seq (.seq (.reg [⟨some 3, none, .mv (.t 0)⟩, ⟨some 4, none, .nileq false (.t 3) (.c .nilSlice)⟩]) (.cond (.t 4) (.seq (.reg [⟨some 2, none, .mv (.c .nilSlice)⟩]) .ret) .skip)) (.seq (.reg [⟨some 5, none, .bsl 0 1 [.int .i64 0] []⟩, ⟨some 6, none, .mv (.t 0)⟩, ⟨some 7, none, .app (.t 5) (.t 6) 1 8⟩, ⟨some 2, none, .mv (.t 7)⟩]) .ret))
theorem code_slices_Clone_ints : HasCode Try.prog fn_slices_Clone_ints mc_slices_Clone_ints [.t 2] 8 := ⟨mixed, Try.f23, _, Try.func23, rfl, by kernel_rfl, by kernel_rfl, rfl, by kernel_rfl⟩

def mc_slices_Sort_ints : MC :=
  .seq (.reg [⟨some 3, none, .mv (.t 0)⟩, ⟨some 4, none, .len (.t 3)⟩, ⟨some 2, none, .mv (.t 4)⟩]) (.reg [⟨some 5, none, .mv (.t 0)⟩, ⟨some 6, none, .mv (.t 2)⟩, ⟨some 7, none, .mv (.t 2)⟩, ⟨some 8, none, .conv .u64 (.t 7)⟩, ⟨some 9, none, .call fn_math_bits_Len [.t 8]⟩, ⟨some 10, none, .call fn_slices_pdqsortOrdered_int [.t 5, .c (.int .i64 0), .t 6, .t 9]⟩])
theorem code_slices_Sort_ints : HasCode Try.prog fn_slices_Sort_ints mc_slices_Sort_ints [] 11 := ⟨mixed, Try.f24, _, Try.func24, rfl, by kernel_rfl, by kernel_rfl, rfl, by kernel_rfl⟩

def mc_spec_inRange : MC :=
  .seq (.reg [⟨some 6, none, .mv (.c (.bool false))⟩]) (.seq (.reg [⟨some 7, none, .mv (.t 1)⟩, ⟨some 8, none, .mv (.t 0)⟩, ⟨some 9, none, .bin .leq (.t 7) (.t 8)⟩, ⟨some 10, none, .mv (.t 9)⟩, ⟨some 11, some (10, true), .mv (.t 0)⟩, ⟨some 12, some (10, true), .mv (.t 2)⟩, ⟨some 13, some (10, true), .bin .leq (.t 11) (.t 12)⟩, ⟨some 14, none, .pick (.t 10) (.t 13) (.c (.bool false))⟩, ⟨some 6, none, .mv (.t 14)⟩]) .ret)
theorem code_spec_inRange : HasCode Try.prog fn_spec_inRange mc_spec_inRange [.t 6] 15 := ⟨mixed, Try.f25, _, Try.func25, rfl, by kernel_rfl, by kernel_rfl, rfl, by kernel_rfl⟩

def mc_slices_pdqsortOrdered_int : MC :=
  .seq (.reg [⟨some 8, none, .mv (.c (.bool true))⟩]) (.seq (.reg [⟨some 9, none, .mv (.c (.bool true))⟩]) (.block 0 (.loop (.block 1 (.seq (.reg [⟨some 19, none, .mv (.t 2)⟩, ⟨some 20, none, .mv (.t 1)⟩, ⟨some 21, none, .bin .sub (.t 19) (.t 20)⟩, ⟨some 10, none, .mv (.t 21)⟩]) (.seq (.seq (.reg [⟨some 22, none, .mv (.t 10)⟩, ⟨some 23, none, .bin .leq (.t 22) (.c (.int .i64 12))⟩]) (.cond (.t 23) (.seq (.reg [⟨some 24, none, .mv (.t 0)⟩, ⟨some 25, none, .mv (.t 1)⟩, ⟨some 26, none, .mv (.t 2)⟩, ⟨some 27, none, .call fn_slices_insertionSortOrdered_int [.t 24, .t 25, .t 26]⟩]) .ret) .skip)) (.seq (.seq (.reg [⟨some 28, none, .mv (.t 3)⟩, ⟨some 29, none, .bin .eql (.t 28) (.c (.int .i64 0))⟩]) (.cond (.t 29) (.seq (.reg [⟨some 30, none, .mv (.t 0)⟩, ⟨some 31, none, .mv (.t 1)⟩, ⟨some 32, none, .mv (.t 2)⟩, ⟨some 33, none, .call fn_slices_heapSortOrdered_int [.t 30, .t 31, .t 32]⟩]) .ret) .skip)) (.seq (.seq (.reg [⟨some 34, none, .mv (.t 8)⟩, ⟨some 35, none, .un .not (.t 34)⟩]) (.cond (.t 35) (.seq (.reg [⟨some 36, none, .mv (.t 0)⟩, ⟨some 37, none, .mv (.t 1)⟩, ⟨some 38, none, .mv (.t 2)⟩, ⟨some 39, none, .call fn_slices_breakPatternsOrdered_int [.t 36, .t 37, .t 38]⟩]) (.reg [⟨some 40, none, .mv (.t 3)⟩, ⟨some 41, none, .bin .sub (.t 40) (.c (.int .i64 1))⟩, ⟨some 3, none, .mv (.t 41)⟩])) .skip)) (.seq (.reg [⟨some 43, none, .mv (.t 0)⟩, ⟨some 44, none, .mv (.t 1)⟩, ⟨some 45, none, .mv (.t 2)⟩, ⟨some 46, none, .call fn_slices_choosePivotOrdered_int [.t 43, .t 44, .t 45]⟩, ⟨some 42, none, .mv (.t 46)⟩, ⟨some 47, none, .ext (.t 42) 0⟩, ⟨some 48, none, .ext (.t 42) 1⟩, ⟨some 11, none, .mv (.t 47)⟩, ⟨some 12, none, .mv (.t 48)⟩]) (.seq (.seq (.reg [⟨some 49, none, .mv (.t 12)⟩, ⟨some 50, none, .bin .eql (.t 49) (.c (.int .i64 2))⟩]) (.cond (.t 50) (.seq (.reg [⟨some 51, none, .mv (.t 0)⟩, ⟨some 52, none, .mv (.t 1)⟩, ⟨some 53, none, .mv (.t 2)⟩, ⟨some 54, none, .call fn_slices_reverseRangeOrdered_int [.t 51, .t 52, .t 53]⟩]) (.seq (.reg [⟨some 55, none, .mv (.t 2)⟩, ⟨some 56, none, .bin .sub (.t 55) (.c (.int .i64 1))⟩, ⟨some 57, none, .mv (.t 11)⟩, ⟨some 58, none, .mv (.t 1)⟩, ⟨some 59, none, .bin .sub (.t 57) (.t 58)⟩, ⟨some 60, none, .bin .sub (.t 56) (.t 59)⟩, ⟨some 11, none, .mv (.t 60)⟩]) (.reg [⟨some 12, none, .mv (.c (.int .i64 1))⟩]))) .skip)) (.seq (.seq (.reg [⟨some 61, none, .mv (.t 8)⟩, ⟨some 62, none, .mv (.t 61)⟩, ⟨some 63, some (62, true), .mv (.t 9)⟩, ⟨some 64, none, .pick (.t 62) (.t 63) (.c (.bool false))⟩, ⟨some 65, none, .mv (.t 64)⟩, ⟨some 66, some (65, true), .mv (.t 12)⟩, ⟨some 67, some (65, true), .bin .eql (.t 66) (.c (.int .i64 1))⟩, ⟨some 68, none, .pick (.t 65) (.t 67) (.c (.bool false))⟩]) (.cond (.t 68) (.seq (.reg [⟨some 69, none, .mv (.t 0)⟩, ⟨some 70, none, .mv (.t 1)⟩, ⟨some 71, none, .mv (.t 2)⟩, ⟨some 72, none, .call fn_slices_partialInsertionSortOrdered_int [.t 69, .t 70, .t 71]⟩]) (.cond (.t 72) .ret .skip)) .skip)) (.seq (.seq (.drq [⟨some 73, none, .mv (.t 1)⟩, ⟨some 74, none, .bin .gtr (.t 73) (.c (.int .i64 0))⟩, ⟨some 75, none, .mv (.t 74)⟩, ⟨some 76, some (75, true), .mv (.t 0)⟩, ⟨some 77, some (75, true), .mv (.t 1)⟩, ⟨some 78, some (75, true), .bin .sub (.t 77) (.c (.int .i64 1))⟩, ⟨some 79, some (75, true), .ixa (.t 76) (.t 78) 1⟩, ⟨some 80, some (75, true), .ld (.t 79) 1 false⟩, ⟨some 81, some (75, true), .mv (.t 0)⟩, ⟨some 82, some (75, true), .mv (.t 11)⟩, ⟨some 83, some (75, true), .ixa (.t 81) (.t 82) 1⟩, ⟨some 84, some (75, true), .ld (.t 83) 1 false⟩, ⟨some 85, some (75, true), .call fn_cmp_Less_int [.t 80, .t 84]⟩, ⟨some 86, some (75, true), .un .not (.t 85)⟩, ⟨some 87, none, .pick (.t 75) (.t 86) (.c (.bool false))⟩]) (.cond (.t 87) (.seq (.reg [⟨some 88, none, .mv (.t 0)⟩, ⟨some 89, none, .mv (.t 1)⟩, ⟨some 90, none, .mv (.t 2)⟩, ⟨some 91, none, .mv (.t 11)⟩, ⟨some 92, none, .call fn_slices_partitionEqualOrdered_int [.t 88, .t 89, .t 90, .t 91]⟩, ⟨some 13, none, .mv (.t 92)⟩]) (.seq (.reg [⟨some 93, none, .mv (.t 13)⟩, ⟨some 1, none, .mv (.t 93)⟩]) (.exit 1))) .skip)) (.seq (.reg [⟨some 95, none, .mv (.t 0)⟩, ⟨some 96, none, .mv (.t 1)⟩, ⟨some 97, none, .mv (.t 2)⟩, ⟨some 98, none, .mv (.t 11)⟩, ⟨some 99, none, .call fn_slices_partitionOrdered_int [.t 95, .t 96, .t 97, .t 98]⟩, ⟨some 94, none, .mv (.t 99)⟩, ⟨some 100, none, .ext (.t 94) 0⟩, ⟨some 101, none, .ext (.t 94) 1⟩, ⟨some 14, none, .mv (.t 100)⟩, ⟨some 15, none, .mv (.t 101)⟩]) (.seq (.reg [⟨some 102, none, .mv (.t 15)⟩, ⟨some 9, none, .mv (.t 102)⟩]) (.seq (.reg [⟨some 103, none, .mv (.t 14)⟩, ⟨some 104, none, .mv (.t 1)⟩, ⟨some 105, none, .bin .sub (.t 103) (.t 104)⟩, ⟨some 106, none, .mv (.t 2)⟩, ⟨some 107, none, .mv (.t 14)⟩, ⟨some 108, none, .bin .sub (.t 106) (.t 107)⟩, ⟨some 16, none, .mv (.t 105)⟩, ⟨some 17, none, .mv (.t 108)⟩]) (.seq (.reg [⟨some 109, none, .mv (.t 10)⟩, ⟨some 110, none, .bin .quo (.t 109) (.c (.int .i64 8))⟩, ⟨some 18, none, .mv (.t 110)⟩]) (.seq (.reg [⟨some 111, none, .mv (.t 16)⟩, ⟨some 112, none, .mv (.t 17)⟩, ⟨some 113, none, .bin .lss (.t 111) (.t 112)⟩]) (.cond (.t 113) (.seq (.reg [⟨some 114, none, .mv (.t 16)⟩, ⟨some 115, none, .mv (.t 18)⟩, ⟨some 116, none, .bin .geq (.t 114) (.t 115)⟩, ⟨some 8, none, .mv (.t 116)⟩]) (.seq (.reg [⟨some 117, none, .mv (.t 0)⟩, ⟨some 118, none, .mv (.t 1)⟩, ⟨some 119, none, .mv (.t 14)⟩, ⟨some 120, none, .mv (.t 3)⟩, ⟨some 121, none, .call fn_slices_pdqsortOrdered_int [.t 117, .t 118, .t 119, .t 120]⟩]) (.reg [⟨some 122, none, .mv (.t 14)⟩, ⟨some 123, none, .bin .add (.t 122) (.c (.int .i64 1))⟩, ⟨some 1, none, .mv (.t 123)⟩]))) (.seq (.reg [⟨some 124, none, .mv (.t 17)⟩, ⟨some 125, none, .mv (.t 18)⟩, ⟨some 126, none, .bin .geq (.t 124) (.t 125)⟩, ⟨some 8, none, .mv (.t 126)⟩]) (.seq (.reg [⟨some 127, none, .mv (.t 0)⟩, ⟨some 128, none, .mv (.t 14)⟩, ⟨some 129, none, .bin .add (.t 128) (.c (.int .i64 1))⟩, ⟨some 130, none, .mv (.t 2)⟩, ⟨some 131, none, .mv (.t 3)⟩, ⟨some 132, none, .call fn_slices_pdqsortOrdered_int [.t 127, .t 129, .t 130, .t 131]⟩]) (.reg [⟨some 133, none, .mv (.t 14)⟩, ⟨some 2, none, .mv (.t 133)⟩])))))))))))))))))))))
theorem code_slices_pdqsortOrdered_int : HasCode Try.prog fn_slices_pdqsortOrdered_int mc_slices_pdqsortOrdered_int [] 134 := ⟨mixed, Try.f26, _, Try.func26, rfl, by kernel_rfl, by kernel_rfl, rfl, by kernel_rfl⟩

def mc_math_bits_Len : MC :=
  .seq (.reg [⟨some 2, none, .mv (.c (.int .i64 0))⟩]) (.seq (.cond (.c (.bool false)) (.seq (.reg [⟨some 3, none, .mv (.t 0)⟩, ⟨some 4, none, .conv .u32 (.t 3)⟩, ⟨some 5, none, .call fn_math_bits_Len32 [.t 4]⟩, ⟨some 2, none, .mv (.t 5)⟩]) .ret) .skip) (.seq (.reg [⟨some 6, none, .mv (.t 0)⟩, ⟨some 7, none, .call fn_math_bits_Len64 [.t 6]⟩, ⟨some 2, none, .mv (.t 7)⟩]) .ret))
theorem code_math_bits_Len : HasCode Try.prog fn_math_bits_Len mc_math_bits_Len [.t 2] 8 := ⟨mixed, Try.f27, _, Try.func27, rfl, by kernel_rfl, by kernel_rfl, rfl, by kernel_rfl⟩

def mc_slices_insertionSortOrdered_int : MC :=
  .seq (.reg [⟨some 8, none, .mv (.t 1)⟩, ⟨some 9, none, .bin .add (.t 8) (.c (.int .i64 1))⟩, ⟨some 6, none, .mv (.t 9)⟩]) (.block 0 (.loop (.seq (.seq (.reg [⟨some 10, none, .mv (.t 6)⟩, ⟨some 11, none, .mv (.t 2)⟩, ⟨some 12, none, .bin .lss (.t 10) (.t 11)⟩]) (.cond (.t 12) .skip (.exit 0))) (.seq (.block 1 (.seq (.reg [⟨some 15, none, .mv (.t 6)⟩, ⟨some 7, none, .mv (.t 15)⟩]) (.block 2 (.loop (.seq (.seq (.drq [⟨some 16, none, .mv (.t 7)⟩, ⟨some 17, none, .mv (.t 1)⟩, ⟨some 18, none, .bin .gtr (.t 16) (.t 17)⟩, ⟨some 19, none, .mv (.t 18)⟩, ⟨some 20, some (19, true), .mv (.t 0)⟩, ⟨some 21, some (19, true), .mv (.t 7)⟩, ⟨some 22, some (19, true), .ixa (.t 20) (.t 21) 1⟩, ⟨some 23, some (19, true), .ld (.t 22) 1 false⟩, ⟨some 24, some (19, true), .mv (.t 0)⟩, ⟨some 25, some (19, true), .mv (.t 7)⟩, ⟨some 26, some (19, true), .bin .sub (.t 25) (.c (.int .i64 1))⟩, ⟨some 27, some (19, true), .ixa (.t 24) (.t 26) 1⟩, ⟨some 28, some (19, true), .ld (.t 27) 1 false⟩, ⟨some 29, some (19, true), .call fn_cmp_Less_int [.t 23, .t 28]⟩, ⟨some 30, none, .pick (.t 19) (.t 29) (.c (.bool false))⟩]) (.cond (.t 30) .skip (.exit 2))) (.seq (.block 3 (.drw [⟨some 33, none, .mv (.t 0)⟩, ⟨some 34, none, .mv (.t 7)⟩, ⟨some 35, none, .mv (.t 0)⟩, ⟨some 36, none, .mv (.t 7)⟩, ⟨some 37, none, .bin .sub (.t 36) (.c (.int .i64 1))⟩, ⟨some 38, none, .mv (.t 0)⟩, ⟨some 39, none, .mv (.t 7)⟩, ⟨some 40, none, .bin .sub (.t 39) (.c (.int .i64 1))⟩, ⟨some 41, none, .ixa (.t 38) (.t 40) 1⟩, ⟨some 42, none, .ld (.t 41) 1 false⟩, ⟨some 43, none, .mv (.t 0)⟩, ⟨some 44, none, .mv (.t 7)⟩, ⟨some 45, none, .ixa (.t 43) (.t 44) 1⟩, ⟨some 46, none, .ld (.t 45) 1 false⟩, ⟨some 47, none, .ixa (.t 33) (.t 34) 1⟩, ⟨none, none, .st (.t 47) (.t 42) 1⟩, ⟨some 48, none, .ixa (.t 35) (.t 37) 1⟩, ⟨none, none, .st (.t 48) (.t 46) 1⟩] [])) (.reg [⟨some 31, none, .mv (.t 7)⟩, ⟨some 32, none, .bin .sub (.t 31) (.c (.int .i64 1))⟩, ⟨some 7, none, .mv (.t 32)⟩]))))))) (.reg [⟨some 13, none, .mv (.t 6)⟩, ⟨some 14, none, .bin .add (.t 13) (.c (.int .i64 1))⟩, ⟨some 6, none, .mv (.t 14)⟩])))))
theorem code_slices_insertionSortOrdered_int : HasCode Try.prog fn_slices_insertionSortOrdered_int mc_slices_insertionSortOrdered_int [] 49 := ⟨mixed, Try.f28, _, Try.func28, rfl, by kernel_rfl, by kernel_rfl, rfl, by kernel_rfl⟩

def mc_cmp_Less_int : MC :=
  .seq (.reg [⟨some 4, none, .mv (.c (.bool false))⟩]) (.seq (.reg [⟨some 5, none, .mv (.t 0)⟩, ⟨some 6, none, .call fn_cmp_isNaN_int [.t 5]⟩, ⟨some 7, none, .mv (.t 6)⟩, ⟨some 8, some (7, true), .mv (.t 1)⟩, ⟨some 9, some (7, true), .call fn_cmp_isNaN_int [.t 8]⟩, ⟨some 10, some (7, true), .un .not (.t 9)⟩, ⟨some 11, none, .pick (.t 7) (.t 10) (.c (.bool false))⟩, ⟨some 12, none, .mv (.t 11)⟩, ⟨some 13, some (12, false), .mv (.t 0)⟩, ⟨some 14, some (12, false), .mv (.t 1)⟩, ⟨some 15, some (12, false), .bin .lss (.t 13) (.t 14)⟩, ⟨some 16, none, .pick (.t 12) (.c (.bool true)) (.t 15)⟩, ⟨some 4, none, .mv (.t 16)⟩]) .ret)
theorem code_cmp_Less_int : HasCode Try.prog fn_cmp_Less_int mc_cmp_Less_int [.t 4] 17 := ⟨mixed, Try.f34, _, Try.func34, rfl, by kernel_rfl, by kernel_rfl, rfl, by kernel_rfl⟩

def mc_math_bits_Len64 : MC :=
  .seq (.reg [⟨some 2, none, .mv (.c (.int .i64 0))⟩]) (.seq (.seq (.reg [⟨some 3, none, .mv (.t 0)⟩, ⟨some 4, none, .bin .geq (.t 3) (.c (.int .u64 4294967296))⟩]) (.cond (.t 4) (.seq (.reg [⟨some 5, none, .mv (.t 0)⟩, ⟨some 6, none, .bin .shr (.t 5) (.c (.int .u64 32))⟩, ⟨some 0, none, .mv (.t 6)⟩]) (.reg [⟨some 2, none, .mv (.c (.int .i64 32))⟩])) .skip)) (.seq (.seq (.reg [⟨some 7, none, .mv (.t 0)⟩, ⟨some 8, none, .bin .geq (.t 7) (.c (.int .u64 65536))⟩]) (.cond (.t 8) (.seq (.reg [⟨some 9, none, .mv (.t 0)⟩, ⟨some 10, none, .bin .shr (.t 9) (.c (.int .u64 16))⟩, ⟨some 0, none, .mv (.t 10)⟩]) (.reg [⟨some 11, none, .mv (.t 2)⟩, ⟨some 12, none, .bin .add (.t 11) (.c (.int .i64 16))⟩, ⟨some 2, none, .mv (.t 12)⟩])) .skip)) (.seq (.seq (.reg [⟨some 13, none, .mv (.t 0)⟩, ⟨some 14, none, .bin .geq (.t 13) (.c (.int .u64 256))⟩]) (.cond (.t 14) (.seq (.reg [⟨some 15, none, .mv (.t 0)⟩, ⟨some 16, none, .bin .shr (.t 15) (.c (.int .u64 8))⟩, ⟨some 0, none, .mv (.t 16)⟩]) (.reg [⟨some 17, none, .mv (.t 2)⟩, ⟨some 18, none, .bin .add (.t 17) (.c (.int .i64 8))⟩, ⟨some 2, none, .mv (.t 18)⟩])) .skip)) (.seq (.reg [⟨some 19, none, .mv (.t 2)⟩, ⟨some 20, none, .mv (.t 0)⟩, ⟨some 21, none, .conv .u8 (.t 20)⟩, ⟨some 22, none, .chr (.c (.str [0, 1, 2, 2, 3, 3, 3, 3, 4, 4, 4, 4, 4, 4, 4, 4, 5, 5, 5, 5, 5, 5, 5, 5, 5, 5, 5, 5, 5, 5, 5, 5, 6, 6, 6, 6, 6, 6, 6, 6, 6, 6, 6, 6, 6, 6, 6, 6, 6, 6, 6, 6, 6, 6, 6, 6, 6, 6, 6, 6, 6, 6, 6, 6, 7, 7, 7, 7, 7, 7, 7, 7, 7, 7, 7, 7, 7, 7, 7, 7, 7, 7, 7, 7, 7, 7, 7, 7, 7, 7, 7, 7, 7, 7, 7, 7, 7, 7, 7, 7, 7, 7, 7, 7, 7, 7, 7, 7, 7, 7, 7, 7, 7, 7, 7, 7, 7, 7, 7, 7, 7, 7, 7, 7, 7, 7, 7, 7, 8, 8, 8, 8, 8, 8, 8, 8, 8, 8, 8, 8, 8, 8, 8, 8, 8, 8, 8, 8, 8, 8, 8, 8, 8, 8, 8, 8, 8, 8, 8, 8, 8, 8, 8, 8, 8, 8, 8, 8, 8, 8, 8, 8, 8, 8, 8, 8, 8, 8, 8, 8, 8, 8, 8, 8, 8, 8, 8, 8, 8, 8, 8, 8, 8, 8, 8, 8, 8, 8, 8, 8, 8, 8, 8, 8, 8, 8, 8, 8, 8, 8, 8, 8, 8, 8, 8, 8, 8, 8, 8, 8, 8, 8, 8, 8, 8, 8, 8, 8, 8, 8, 8, 8, 8, 8, 8, 8, 8, 8, 8, 8, 8, 8, 8, 8, 8, 8, 8, 8, 8, 8, 8, 8, 8, 8, 8, 8])) (.t 21)⟩, ⟨some 23, none, .conv .i64 (.t 22)⟩, ⟨some 24, none, .bin .add (.t 19) (.t 23)⟩, ⟨some 2, none, .mv (.t 24)⟩]) .ret))))
theorem code_math_bits_Len64 : HasCode Try.prog fn_math_bits_Len64 mc_math_bits_Len64 [.t 2] 25 := ⟨mixed, Try.f38, _, Try.func38, rfl, by kernel_rfl, by kernel_rfl, rfl, by kernel_rfl⟩

def mc_cmp_isNaN_int : MC :=
  .seq (.reg [⟨some 2, none, .mv (.c (.bool false))⟩]) (.seq (.reg [⟨some 3, none, .mv (.t 0)⟩, ⟨some 4, none, .mv (.t 0)⟩, ⟨some 5, none, .bin .neq (.t 3) (.t 4)⟩, ⟨some 2, none, .mv (.t 5)⟩]) .ret)
theorem code_cmp_isNaN_int : HasCode Try.prog fn_cmp_isNaN_int mc_cmp_isNaN_int [.t 2] 6 := ⟨mixed, Try.f44, _, Try.func44, rfl, by kernel_rfl, by kernel_rfl, rfl, by kernel_rfl⟩

end Go.Rx.Try
