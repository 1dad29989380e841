/-
  The code of each function of the program, taken up. Made by a program.
-/
import Derived.Test.YtophpmdlgphihahProg
import Derived.Test.YtophpmdlgphihahRxI
import Derived.KernelRfl
import Derived.Shelf.Sort.Plain
namespace Go.Proofs
open Go.Shelf
def Try.lays189_ren : Go.Shelf.Ren := ⟨fun | 189 => 32 | 125 => 36 | 257 => 35 | 128 => 47 | 129 => 48 | 294 => 38 | 295 => 39 | 296 => 40 | 297 => 41 | 298 => 42 | 299 => 43 | 216 => 44 | 300 => 45 | 301 => 46 | 328 => 49 | 329 => 50 | 330 => 51 | 331 => 52 | 332 => 53 | 215 => 37 | 343 => 54 | n => n, fun | 28 => 22 | 3 => 3 | 46 => 57 | 0 => 0 | 51 => 69 | 53 => 71 | 4 => 4 | 183 => 61 | 182 => 60 | 131 => 66 | 5 => 5 | 9 => 9 | 218 => 72 | 222 => 76 | 228 => 78 | 229 => 79 | n => n, fun | n => n⟩
theorem Try.lays189 : Go.Proofs.Lays.n189 Try.prog Try.lays189_ren := {
  mixed := by kernel_rfl
  f125 := Try.func36.trans (congrArg some (by kernel_rfl))
  f128 := Try.func47.trans (congrArg some (by kernel_rfl))
  f129 := Try.func48.trans (congrArg some (by kernel_rfl))
  f189 := Try.func32.trans (congrArg some (by kernel_rfl))
  f215 := Try.func37.trans (congrArg some (by kernel_rfl))
  f216 := Try.func44.trans (congrArg some (by kernel_rfl))
  f257 := Try.func35.trans (congrArg some (by kernel_rfl))
  f294 := Try.func38.trans (congrArg some (by kernel_rfl))
  f295 := Try.func39.trans (congrArg some (by kernel_rfl))
  f296 := Try.func40.trans (congrArg some (by kernel_rfl))
  f297 := Try.func41.trans (congrArg some (by kernel_rfl))
  f298 := Try.func42.trans (congrArg some (by kernel_rfl))
  f299 := Try.func43.trans (congrArg some (by kernel_rfl))
  f300 := Try.func45.trans (congrArg some (by kernel_rfl))
  f301 := Try.func46.trans (congrArg some (by kernel_rfl))
  f328 := Try.func49.trans (congrArg some (by kernel_rfl))
  f329 := Try.func50.trans (congrArg some (by kernel_rfl))
  f330 := Try.func51.trans (congrArg some (by kernel_rfl))
  f331 := Try.func52.trans (congrArg some (by kernel_rfl))
  f332 := Try.func53.trans (congrArg some (by kernel_rfl))
  f343 := Try.func54.trans (congrArg some (by kernel_rfl))
  t0 := Try.underlying0
  a0 := Try.isAgg0
  z0 := Try.sizeOf0
  v0 := Try.zeroValue0
  t3 := Try.underlying3
  a3 := Try.isAgg3
  z3 := Try.sizeOf3
  v3 := Try.zeroValue3
  t4 := Try.underlying4
  a4 := Try.isAgg4
  z4 := Try.sizeOf4
  v4 := Try.zeroValue4
  t5 := Try.underlying5
  a5 := Try.isAgg5
  z5 := Try.sizeOf5
  v5 := Try.zeroValue5
  t9 := Try.underlying9
  a9 := Try.isAgg9
  z9 := Try.sizeOf9
  v9 := Try.zeroValue9
  t28 := Try.underlying22
  a28 := Try.isAgg22
  z28 := Try.sizeOf22
  v28 := Try.zeroValue22
  t46 := Try.underlying57
  a46 := Try.isAgg57
  z46 := Try.sizeOf57
  v46 := Try.zeroValue57
  t51 := Try.underlying69
  a51 := Try.isAgg69
  z51 := Try.sizeOf69
  v51 := Try.zeroValue69
  t53 := Try.underlying71
  a53 := Try.isAgg71
  z53 := Try.sizeOf71
  v53 := Try.zeroValue71
  t131 := Try.underlying66
  a131 := Try.isAgg66
  z131 := Try.sizeOf66
  v131 := Try.zeroValue66
  t182 := Try.underlying60
  a182 := Try.isAgg60
  z182 := Try.sizeOf60
  v182 := Try.zeroValue60
  t183 := Try.underlying61
  a183 := Try.isAgg61
  z183 := Try.sizeOf61
  v183 := Try.zeroValue61
  t218 := Try.underlying72
  a218 := Try.isAgg72
  z218 := Try.sizeOf72
  v218 := Try.zeroValue72
  t222 := Try.underlying76
  a222 := Try.isAgg76
  z222 := Try.sizeOf76
  v222 := Try.zeroValue76
  t228 := Try.underlying78
  a228 := Try.isAgg78
  z228 := Try.sizeOf78
  v228 := Try.zeroValue78
  t229 := Try.underlying79
  a229 := Try.isAgg79
  z229 := Try.sizeOf79
  v229 := Try.zeroValue79 }
end Go.Proofs

namespace Go.Rx.Try
open Go.Proofs
set_option maxRecDepth 100000

abbrev sort_ren := Go.Proofs.Try.lays189_ren
theorem sort_lays : Go.Proofs.Lays.n189 Go.Proofs.Try.prog sort_ren := Go.Proofs.Try.lays189
abbrev fn_laws_FnExactMiddlePieces : FuncId := 3
abbrev fn_laws_FnMiddlePieces : FuncId := 4
abbrev fn_spec_MiddlePieces : FuncId := 5
abbrev fn_laws_toIntS : FuncId := 6
abbrev fn_impl_MiddlePieces : FuncId := 7
abbrev fn_laws_eqIntS : FuncId := 8
abbrev fn_spec_DrawMiddlePieces : FuncId := 9
abbrev fn_laws_turned : FuncId := 10
abbrev fn_spec_validSteps : FuncId := 11
abbrev fn_spec_inRange : FuncId := 12
abbrev fn_spec_apartOf : FuncId := 13
abbrev fn_impl_validPieces : FuncId := 14
abbrev fn_impl_bestCuts : FuncId := 15
abbrev fn_impl_missedDistances : FuncId := 16
abbrev fn_impl_cuts_upTo : FuncId := 17
abbrev fn_spec_newReader : FuncId := 18
abbrev fn_spec_stepList : FuncId := 19
abbrev fn_spec_reader_one : FuncId := 20
abbrev fn_spec_sorted : FuncId := 21
abbrev fn_impl_validHeights : FuncId := 22
abbrev fn_impl_whole : FuncId := 23
abbrev fn_impl_cuts_keep : FuncId := 24
abbrev fn_impl_Frac_plus : FuncId := 25
abbrev fn_impl_sortedCopy : FuncId := 26
abbrev fn_impl_apart : FuncId := 27
abbrev fn_spec_reader_pick : FuncId := 28
abbrev fn_impl_Frac_compare : FuncId := 29
abbrev fn_impl_lowest : FuncId := 30
abbrev fn_slices_Clone_ints : FuncId := 31
abbrev fn_slices_Sort_ints : FuncId := 32
abbrev fn_cmp_Compare_int : FuncId := 33
abbrev fn_impl_commonFactor : FuncId := 34
abbrev fn_slices_pdqsortOrdered_int : FuncId := 35
abbrev fn_math_bits_Len : FuncId := 36
abbrev fn_cmp_isNaN_int : FuncId := 37
abbrev fn_slices_insertionSortOrdered_int : FuncId := 38
abbrev fn_slices_heapSortOrdered_int : FuncId := 39
abbrev fn_slices_breakPatternsOrdered_int : FuncId := 40
abbrev fn_slices_choosePivotOrdered_int : FuncId := 41
abbrev fn_slices_reverseRangeOrdered_int : FuncId := 42
abbrev fn_slices_partialInsertionSortOrdered_int : FuncId := 43
abbrev fn_cmp_Less_int : FuncId := 44
abbrev fn_slices_partitionEqualOrdered_int : FuncId := 45
abbrev fn_slices_partitionOrdered_int : FuncId := 46
abbrev fn_math_bits_Len32 : FuncId := 47
abbrev fn_math_bits_Len64 : FuncId := 48
abbrev fn_slices_siftDownOrdered_int : FuncId := 49
abbrev fn_slices_nextPowerOfTwo : FuncId := 50
abbrev fn_slices_xorshift_Next : FuncId := 51
abbrev fn_slices_medianAdjacentOrdered_int : FuncId := 52
abbrev fn_slices_medianOrdered_int : FuncId := 53
abbrev fn_slices_order2Ordered_int : FuncId := 54
abbrev fn_runtime_boundsError_Error : FuncId := 55
abbrev fn_runtime_boundsError_RuntimeError : FuncId := 56
abbrev fn_runtime_errorString_Error : FuncId := 57
abbrev fn_runtime_errorString_RuntimeError : FuncId := 58
abbrev fn_runtime_plainError_Error : FuncId := 59
abbrev fn_runtime_plainError_RuntimeError : FuncId := 60
abbrev fn_runtime_errorAddressString_Error : FuncId := 61
abbrev fn_runtime_errorAddressString_RuntimeError : FuncId := 62
abbrev fn_runtime_TypeAssertionError_Error : FuncId := 63
abbrev fn_runtime_TypeAssertionError_RuntimeError : FuncId := 64
abbrev fn_runtime_PanicNilError_Error : FuncId := 65
abbrev fn_runtime_PanicNilError_RuntimeError : FuncId := 66
abbrev fn_internal_abi_Type_Align : FuncId := 67
abbrev fn_internal_runtime_maps_unhashableTypeError_Error : FuncId := 68
abbrev fn_internal_runtime_maps_unhashableTypeError_RuntimeError : FuncId := 69
abbrev fn_impl_Frac_size : FuncId := 70
abbrev fn_internal_abi_Kind_String : FuncId := 71
abbrev ty_abi_BoundsErrorCode : TypeId := 6
abbrev ty_maps_unhashableTypeError : TypeId := 19
abbrev ty_impl_Frac : TypeId := 35
abbrev ty_impl_cuts : TypeId := 37
abbrev ty_spec_reader : TypeId := 50
abbrev ty_abi_TFlag : TypeId := 88
abbrev ty_abi_Kind : TypeId := 89
abbrev ty_abi_NameOff : TypeId := 92
abbrev ty_abi_TypeOff : TypeId := 93
abbrev ty_abi_Type : TypeId := 95
theorem mixed : Try.prog.follows .mixedOrders = true := by kernel_rfl

def mc_laws_FnMiddlePieces : MC :=
  .seq (.reg [⟨some 2, none, .mv (.c (.bool false))⟩]) (.seq (.seq (.reg [⟨some 7, none, .mv (.t 0)⟩, ⟨some 8, none, .len (.t 7)⟩, ⟨some 9, none, .bin .gtr (.t 8) (.c (.int .i64 1048576))⟩]) (.cond (.t 9) (.seq (.reg [⟨some 2, none, .mv (.c (.bool true))⟩]) .ret) .skip)) (.seq (.reg [⟨some 11, none, .mv (.t 0)⟩, ⟨some 12, none, .call fn_spec_DrawMiddlePieces [.t 11]⟩, ⟨some 10, none, .mv (.t 12)⟩, ⟨some 13, none, .ext (.t 10) 0⟩, ⟨some 14, none, .ext (.t 10) 1⟩, ⟨some 3, none, .mv (.t 13)⟩, ⟨some 4, none, .mv (.t 14)⟩]) (.seq (.reg [⟨some 15, none, .mv (.t 3)⟩, ⟨some 16, none, .mv (.t 4)⟩, ⟨some 17, none, .call fn_impl_MiddlePieces [.t 15, .t 16]⟩, ⟨some 5, none, .mv (.t 17)⟩]) (.seq (.seq (.reg [⟨some 18, none, .mv (.t 5)⟩, ⟨some 19, none, .mv (.t 3)⟩, ⟨some 20, none, .mv (.t 4)⟩, ⟨some 21, none, .call fn_spec_MiddlePieces [.t 19, .t 20]⟩, ⟨some 22, none, .bin .neq (.t 18) (.t 21)⟩, ⟨some 23, none, .mv (.t 22)⟩, ⟨some 24, some (23, false), .mv (.t 5)⟩, ⟨some 25, some (23, false), .bin .lss (.t 24) (.c (.int .i64 0))⟩, ⟨some 26, none, .pick (.t 23) (.c (.bool true)) (.t 25)⟩]) (.cond (.t 26) (.seq (.reg [⟨some 27, none, .mv (.t 5)⟩, ⟨some 28, none, .mv (.t 3)⟩, ⟨some 29, none, .mv (.t 4)⟩, ⟨some 30, none, .call fn_spec_MiddlePieces [.t 28, .t 29]⟩, ⟨some 31, none, .bin .eql (.t 27) (.t 30)⟩, ⟨some 2, none, .mv (.t 31)⟩]) .ret) .skip)) (.seq (.reg [⟨some 32, none, .mv (.t 3)⟩, ⟨some 33, none, .mv (.t 4)⟩, ⟨some 34, none, .bin .add (.t 33) (.c (.int .i64 1))⟩, ⟨some 35, none, .call fn_impl_MiddlePieces [.t 32, .t 34]⟩, ⟨some 6, none, .mv (.t 35)⟩]) (.seq (.reg [⟨some 36, none, .mv (.t 3)⟩, ⟨some 37, none, .call fn_laws_turned [.t 36]⟩, ⟨some 38, none, .mv (.t 4)⟩, ⟨some 39, none, .call fn_impl_MiddlePieces [.t 37, .t 38]⟩, ⟨some 40, none, .mv (.t 5)⟩, ⟨some 41, none, .bin .eql (.t 39) (.t 40)⟩, ⟨some 42, none, .mv (.t 41)⟩, ⟨some 43, some (42, true), .mv (.t 6)⟩, ⟨some 44, some (42, true), .mv (.t 5)⟩, ⟨some 45, some (42, true), .bin .leq (.t 43) (.t 44)⟩, ⟨some 46, none, .pick (.t 42) (.t 45) (.c (.bool false))⟩, ⟨some 47, none, .mv (.t 46)⟩, ⟨some 48, some (47, true), .mv (.t 4)⟩, ⟨some 49, some (47, true), .mv (.t 3)⟩, ⟨some 50, some (47, true), .len (.t 49)⟩, ⟨some 51, some (47, true), .bin .lss (.t 48) (.t 50)⟩, ⟨some 52, some (47, true), .mv (.t 51)⟩, ⟨some 53, some (52, false), .mv (.t 5)⟩, ⟨some 54, some (52, false), .bin .eql (.t 53) (.c (.int .i64 0))⟩, ⟨some 55, some (47, true), .pick (.t 52) (.c (.bool true)) (.t 54)⟩, ⟨some 56, none, .pick (.t 47) (.t 55) (.c (.bool false))⟩, ⟨some 2, none, .mv (.t 56)⟩]) .ret))))))
theorem code_laws_FnMiddlePieces : HasCode Try.prog fn_laws_FnMiddlePieces mc_laws_FnMiddlePieces [.t 2] 57 := ⟨mixed, Try.f4, _, Try.func4, rfl, by kernel_rfl, by kernel_rfl, rfl, by kernel_rfl, rfl⟩

def mc_spec_MiddlePieces : MC :=
  .seq (.reg [⟨some 4, none, .mv (.c (.int .i64 0))⟩]) (.seq (.seq (.reg [⟨some 12, none, .mv (.t 0)⟩, ⟨some 13, none, .call fn_spec_validSteps [.t 12]⟩, ⟨some 14, none, .un .not (.t 13)⟩, ⟨some 15, none, .mv (.t 14)⟩, ⟨some 16, some (15, false), .mv (.t 1)⟩, ⟨some 17, some (15, false), .call fn_spec_inRange [.t 16, .c (.int .i64 1), .c (.int .i64 8)]⟩, ⟨some 18, some (15, false), .un .not (.t 17)⟩, ⟨some 19, none, .pick (.t 15) (.c (.bool true)) (.t 18)⟩]) (.cond (.t 19) (.seq (.reg [⟨some 4, none, .mv (.c (.int .i64 (-1)))⟩]) .ret) .skip)) (.seq (.reg [⟨some 20, none, .mv (.t 0)⟩, ⟨some 21, none, .len (.t 20)⟩, ⟨some 5, none, .mv (.t 21)⟩]) (.seq (.reg [⟨some 22, none, .bsl 1 1 [.int .i64 0] [(0, .c (.int .i64 0))]⟩, ⟨some 6, none, .mv (.t 22)⟩]) (.seq (.seq (.reg [⟨some 7, none, .mv (.c (.int .i64 1))⟩]) (.block 0 (.loop (.seq (.seq (.reg [⟨some 23, none, .mv (.t 7)⟩, ⟨some 24, none, .mv (.t 5)⟩, ⟨some 25, none, .bin .leq (.t 23) (.t 24)⟩]) (.cond (.t 25) .skip (.exit 0))) (.seq (.block 1 (.reg [⟨some 28, none, .mv (.t 6)⟩, ⟨some 29, none, .mv (.t 0)⟩, ⟨some 30, none, .mv (.t 7)⟩, ⟨some 31, none, .call fn_spec_apartOf [.t 29, .c (.int .i64 0), .t 30]⟩, ⟨some 32, none, .bsl 1 1 [.int .i64 0] [(0, .t 31)]⟩, ⟨some 33, none, .app (.t 28) (.t 32) 1 8⟩, ⟨some 6, none, .mv (.t 33)⟩])) (.reg [⟨some 26, none, .mv (.t 7)⟩, ⟨some 27, none, .bin .add (.t 26) (.c (.int .i64 1))⟩, ⟨some 7, none, .mv (.t 27)⟩])))))) (.seq (.seq (.reg [⟨some 8, none, .mv (.c (.int .i64 2))⟩]) (.block 2 (.loop (.seq (.seq (.reg [⟨some 34, none, .mv (.t 8)⟩, ⟨some 35, none, .mv (.t 1)⟩, ⟨some 36, none, .bin .leq (.t 34) (.t 35)⟩]) (.cond (.t 36) .skip (.exit 2))) (.seq (.block 3 (.seq (.reg [⟨some 39, none, .bsl 0 1 [.int .i64 0] []⟩, ⟨some 40, none, .mv (.t 6)⟩, ⟨some 41, none, .app (.t 39) (.t 40) 1 8⟩, ⟨some 9, none, .mv (.t 41)⟩]) (.seq (.seq (.reg [⟨some 10, none, .mv (.c (.int .i64 1))⟩]) (.block 4 (.loop (.seq (.seq (.reg [⟨some 42, none, .mv (.t 10)⟩, ⟨some 43, none, .mv (.t 5)⟩, ⟨some 44, none, .bin .leq (.t 42) (.t 43)⟩]) (.cond (.t 44) .skip (.exit 4))) (.seq (.block 5 (.seq (.reg [⟨some 11, none, .mv (.c (.int .i64 1))⟩]) (.block 6 (.loop (.seq (.seq (.reg [⟨some 47, none, .mv (.t 11)⟩, ⟨some 48, none, .mv (.t 10)⟩, ⟨some 49, none, .bin .lss (.t 47) (.t 48)⟩]) (.cond (.t 49) .skip (.exit 6))) (.seq (.block 7 (.drc [⟨some 52, none, .mv (.t 9)⟩, ⟨some 53, none, .mv (.t 10)⟩, ⟨some 54, none, .mv (.t 9)⟩, ⟨some 55, none, .mv (.t 10)⟩, ⟨some 56, none, .ixa (.t 54) (.t 55) 1⟩, ⟨some 57, none, .ld (.t 56) 1 false⟩, ⟨some 58, none, .mv (.t 6)⟩, ⟨some 59, none, .mv (.t 11)⟩, ⟨some 60, none, .ixa (.t 58) (.t 59) 1⟩, ⟨some 61, none, .ld (.t 60) 1 false⟩, ⟨some 62, none, .mv (.t 0)⟩, ⟨some 63, none, .mv (.t 11)⟩, ⟨some 64, none, .mv (.t 10)⟩, ⟨some 65, none, .call fn_spec_apartOf [.t 62, .t 63, .t 64]⟩, ⟨some 66, none, .bin .add (.t 61) (.t 65)⟩, ⟨some 67, none, .mnmx false (.t 57) [.t 66]⟩, ⟨some 68, none, .ixa (.t 52) (.t 53) 1⟩, ⟨none, none, .st (.t 68) (.t 67) 1⟩] [])) (.reg [⟨some 50, none, .mv (.t 11)⟩, ⟨some 51, none, .bin .add (.t 50) (.c (.int .i64 1))⟩, ⟨some 11, none, .mv (.t 51)⟩]))))))) (.reg [⟨some 45, none, .mv (.t 10)⟩, ⟨some 46, none, .bin .add (.t 45) (.c (.int .i64 1))⟩, ⟨some 10, none, .mv (.t 46)⟩])))))) (.reg [⟨some 69, none, .mv (.t 9)⟩, ⟨some 6, none, .mv (.t 69)⟩])))) (.reg [⟨some 37, none, .mv (.t 8)⟩, ⟨some 38, none, .bin .add (.t 37) (.c (.int .i64 1))⟩, ⟨some 8, none, .mv (.t 38)⟩])))))) (.seq (.reg [⟨some 70, none, .mv (.t 6)⟩, ⟨some 71, none, .mv (.t 5)⟩, ⟨some 72, none, .ixa (.t 70) (.t 71) 1⟩, ⟨some 73, none, .ld (.t 72) 1 false⟩, ⟨some 4, none, .mv (.t 73)⟩]) .ret))))))
theorem code_spec_MiddlePieces : HasCode Try.prog fn_spec_MiddlePieces mc_spec_MiddlePieces [.t 4] 74 := ⟨mixed, Try.f5, _, Try.func5, rfl, by kernel_rfl, by kernel_rfl, rfl, by kernel_rfl, rfl⟩

def mc_impl_MiddlePieces : MC :=
  .seq (.reg [⟨some 4, none, .mv (.c (.int .i64 0))⟩]) (.seq (.seq (.reg [⟨some 5, none, .mv (.t 0)⟩, ⟨some 6, none, .mv (.t 1)⟩, ⟨some 7, none, .call fn_impl_validPieces [.t 5, .t 6]⟩, ⟨some 8, none, .un .not (.t 7)⟩]) (.cond (.t 8) (.seq (.reg [⟨some 4, none, .mv (.c (.int .i64 (-1)))⟩]) .ret) .skip)) (.seq (.reg [⟨some 9, none, .mv (.t 0)⟩, ⟨some 10, none, .call fn_impl_bestCuts [.t 9, .c (.func fn_impl_missedDistances [])]⟩, ⟨some 11, none, .mv (.t 1)⟩, ⟨some 12, none, .call fn_impl_cuts_upTo [.t 10, .t 11]⟩, ⟨some 13, none, .fld (.t 12) 0 1 false⟩, ⟨some 4, none, .mv (.t 13)⟩]) .ret))
theorem code_impl_MiddlePieces : HasCode Try.prog fn_impl_MiddlePieces mc_impl_MiddlePieces [.t 4] 14 := ⟨mixed, Try.f7, _, Try.func7, rfl, by kernel_rfl, by kernel_rfl, rfl, by kernel_rfl, rfl⟩

def mc_spec_DrawMiddlePieces : MC :=
  .seq (.reg [⟨some 2, none, .mv (.c .nilSlice)⟩, ⟨some 3, none, .mv (.c (.int .i64 0))⟩]) (.seq (.reg [⟨some 5, none, .mv (.t 0)⟩, ⟨some 6, none, .call fn_spec_newReader [.t 5]⟩, ⟨some 4, none, .mv (.t 6)⟩]) (.seq (.reg [⟨some 7, none, .mv (.t 4)⟩, ⟨some 8, none, .call fn_spec_stepList [.t 7]⟩, ⟨some 9, none, .mv (.t 4)⟩, ⟨some 10, none, .bsl 7 1 [.int .i64 0] [(0, .c (.int .i64 2)), (1, .c (.int .i64 3)), (2, .c (.int .i64 1)), (3, .c (.int .i64 4)), (4, .c (.int .i64 8)), (5, .c (.int .i64 0)), (6, .c (.int .i64 9))]⟩, ⟨some 11, none, .call fn_spec_reader_one [.t 9, .t 10]⟩, ⟨some 2, none, .mv (.t 8)⟩, ⟨some 3, none, .mv (.t 11)⟩]) .ret))
theorem code_spec_DrawMiddlePieces : HasCode Try.prog fn_spec_DrawMiddlePieces mc_spec_DrawMiddlePieces [.t 2, .t 3] 12 := ⟨mixed, Try.f9, _, Try.func9, rfl, by kernel_rfl, by kernel_rfl, rfl, by kernel_rfl, rfl⟩

def mc_laws_turned : MC :=
  .seq (.reg [⟨some 2, none, .mv (.c .nilSlice)⟩]) (.seq (.reg [⟨some 5, none, .bsl 0 1 [.int .i64 0] []⟩, ⟨some 3, none, .mv (.t 5)⟩]) (.seq (.seq (.reg [⟨some 6, none, .mv (.t 0)⟩, ⟨some 7, none, .len (.t 6)⟩, ⟨some 8, none, .bin .sub (.t 7) (.c (.int .i64 1))⟩, ⟨some 4, none, .mv (.t 8)⟩]) (.block 0 (.loop (.seq (.seq (.reg [⟨some 9, none, .mv (.t 4)⟩, ⟨some 10, none, .bin .geq (.t 9) (.c (.int .i64 0))⟩]) (.cond (.t 10) .skip (.exit 0))) (.seq (.block 1 (.reg [⟨some 13, none, .mv (.t 3)⟩, ⟨some 14, none, .mv (.t 0)⟩, ⟨some 15, none, .mv (.t 4)⟩, ⟨some 16, none, .ixa (.t 14) (.t 15) 1⟩, ⟨some 17, none, .ld (.t 16) 1 false⟩, ⟨some 18, none, .bsl 1 1 [.int .i64 0] [(0, .t 17)]⟩, ⟨some 19, none, .app (.t 13) (.t 18) 1 8⟩, ⟨some 3, none, .mv (.t 19)⟩])) (.reg [⟨some 11, none, .mv (.t 4)⟩, ⟨some 12, none, .bin .sub (.t 11) (.c (.int .i64 1))⟩, ⟨some 4, none, .mv (.t 12)⟩])))))) (.seq (.reg [⟨some 20, none, .mv (.t 3)⟩, ⟨some 2, none, .mv (.t 20)⟩]) .ret)))
theorem code_laws_turned : HasCode Try.prog fn_laws_turned mc_laws_turned [.t 2] 21 := ⟨mixed, Try.f10, _, Try.func10, rfl, by kernel_rfl, by kernel_rfl, rfl, by kernel_rfl, rfl⟩

def mc_spec_validSteps : MC :=
  .seq (.reg [⟨some 2, none, .mv (.c (.bool false))⟩]) (.seq (.seq (.reg [⟨some 3, none, .mv (.c (.int .i64 0))⟩]) (.block 0 (.loop (.seq (.seq (.reg [⟨some 4, none, .mv (.t 3)⟩, ⟨some 5, none, .mv (.t 0)⟩, ⟨some 6, none, .len (.t 5)⟩, ⟨some 7, none, .bin .lss (.t 4) (.t 6)⟩]) (.cond (.t 7) .skip (.exit 0))) (.seq (.block 1 (.seq (.reg [⟨some 10, none, .mv (.t 0)⟩, ⟨some 11, none, .mv (.t 3)⟩, ⟨some 12, none, .ixa (.t 10) (.t 11) 1⟩, ⟨some 13, none, .ld (.t 12) 1 false⟩, ⟨some 14, none, .call fn_spec_inRange [.t 13, .c (.int .i64 (-30)), .c (.int .i64 30)]⟩, ⟨some 15, none, .un .not (.t 14)⟩]) (.cond (.t 15) (.seq (.reg [⟨some 2, none, .mv (.c (.bool false))⟩]) .ret) .skip))) (.reg [⟨some 8, none, .mv (.t 3)⟩, ⟨some 9, none, .bin .add (.t 8) (.c (.int .i64 1))⟩, ⟨some 3, none, .mv (.t 9)⟩])))))) (.seq (.reg [⟨some 16, none, .mv (.t 0)⟩, ⟨some 17, none, .len (.t 16)⟩, ⟨some 18, none, .call fn_spec_inRange [.t 17, .c (.int .i64 1), .c (.int .i64 8)]⟩, ⟨some 2, none, .mv (.t 18)⟩]) .ret))
theorem code_spec_validSteps : HasCode Try.prog fn_spec_validSteps mc_spec_validSteps [.t 2] 19 := ⟨mixed, Try.f11, _, Try.func11, rfl, by kernel_rfl, by kernel_rfl, rfl, by kernel_rfl, rfl⟩

def mc_spec_inRange : MC :=
  .seq (.reg [⟨some 6, none, .mv (.c (.bool false))⟩]) (.seq (.reg [⟨some 7, none, .mv (.t 1)⟩, ⟨some 8, none, .mv (.t 0)⟩, ⟨some 9, none, .bin .leq (.t 7) (.t 8)⟩, ⟨some 10, none, .mv (.t 9)⟩, ⟨some 11, some (10, true), .mv (.t 0)⟩, ⟨some 12, some (10, true), .mv (.t 2)⟩, ⟨some 13, some (10, true), .bin .leq (.t 11) (.t 12)⟩, ⟨some 14, none, .pick (.t 10) (.t 13) (.c (.bool false))⟩, ⟨some 6, none, .mv (.t 14)⟩]) .ret)
theorem code_spec_inRange : HasCode Try.prog fn_spec_inRange mc_spec_inRange [.t 6] 15 := ⟨mixed, Try.f12, _, Try.func12, rfl, by kernel_rfl, by kernel_rfl, rfl, by kernel_rfl, rfl⟩

def mc_spec_apartOf : MC :=
  .seq (.reg [⟨some 6, none, .mv (.c (.int .i64 0))⟩]) (.seq (.reg [⟨some 11, none, .mv (.t 0)⟩, ⟨some 12, none, .mv (.t 1)⟩, ⟨some 13, none, .mv (.t 2)⟩, ⟨some 14, none, .sl (.t 11) (some (.t 12)) (some (.t 13)) none 1⟩, ⟨some 15, none, .call fn_spec_sorted [.t 14]⟩, ⟨some 7, none, .mv (.t 15)⟩]) (.seq (.reg [⟨some 16, none, .mv (.t 7)⟩, ⟨some 17, none, .mv (.t 7)⟩, ⟨some 18, none, .len (.t 17)⟩, ⟨some 19, none, .bin .quo (.t 18) (.c (.int .i64 2))⟩, ⟨some 20, none, .ixa (.t 16) (.t 19) 1⟩, ⟨some 21, none, .ld (.t 20) 1 false⟩, ⟨some 8, none, .mv (.t 21)⟩]) (.seq (.reg [⟨some 9, none, .mv (.c (.int .i64 0))⟩]) (.seq (.seq (.reg [⟨some 10, none, .mv (.c (.int .i64 0))⟩]) (.block 0 (.loop (.seq (.seq (.reg [⟨some 22, none, .mv (.t 10)⟩, ⟨some 23, none, .mv (.t 7)⟩, ⟨some 24, none, .len (.t 23)⟩, ⟨some 25, none, .bin .lss (.t 22) (.t 24)⟩]) (.cond (.t 25) .skip (.exit 0))) (.seq (.block 1 (.drq [⟨some 28, none, .mv (.t 9)⟩, ⟨some 29, none, .mv (.t 7)⟩, ⟨some 30, none, .mv (.t 10)⟩, ⟨some 31, none, .ixa (.t 29) (.t 30) 1⟩, ⟨some 32, none, .ld (.t 31) 1 false⟩, ⟨some 33, none, .mv (.t 8)⟩, ⟨some 34, none, .bin .sub (.t 32) (.t 33)⟩, ⟨some 35, none, .mv (.t 8)⟩, ⟨some 36, none, .mv (.t 7)⟩, ⟨some 37, none, .mv (.t 10)⟩, ⟨some 38, none, .ixa (.t 36) (.t 37) 1⟩, ⟨some 39, none, .ld (.t 38) 1 false⟩, ⟨some 40, none, .bin .sub (.t 35) (.t 39)⟩, ⟨some 41, none, .mnmx true (.t 34) [.t 40]⟩, ⟨some 42, none, .bin .add (.t 28) (.t 41)⟩, ⟨some 9, none, .mv (.t 42)⟩])) (.reg [⟨some 26, none, .mv (.t 10)⟩, ⟨some 27, none, .bin .add (.t 26) (.c (.int .i64 1))⟩, ⟨some 10, none, .mv (.t 27)⟩])))))) (.seq (.reg [⟨some 43, none, .mv (.t 9)⟩, ⟨some 6, none, .mv (.t 43)⟩]) .ret)))))
theorem code_spec_apartOf : HasCode Try.prog fn_spec_apartOf mc_spec_apartOf [.t 6] 44 := ⟨mixed, Try.f13, _, Try.func13, rfl, by kernel_rfl, by kernel_rfl, rfl, by kernel_rfl, rfl⟩

def mc_impl_validPieces : MC :=
  .seq (.reg [⟨some 4, none, .mv (.c (.bool false))⟩]) (.seq (.reg [⟨some 5, none, .mv (.t 0)⟩, ⟨some 6, none, .call fn_impl_validHeights [.t 5]⟩, ⟨some 7, none, .mv (.t 6)⟩, ⟨some 8, some (7, true), .mv (.t 1)⟩, ⟨some 9, some (7, true), .bin .geq (.t 8) (.c (.int .i64 1))⟩, ⟨some 10, none, .pick (.t 7) (.t 9) (.c (.bool false))⟩, ⟨some 11, none, .mv (.t 10)⟩, ⟨some 12, some (11, true), .mv (.t 1)⟩, ⟨some 13, some (11, true), .bin .leq (.t 12) (.c (.int .i64 8))⟩, ⟨some 14, none, .pick (.t 11) (.t 13) (.c (.bool false))⟩, ⟨some 4, none, .mv (.t 14)⟩]) .ret)
theorem code_impl_validPieces : HasCode Try.prog fn_impl_validPieces mc_impl_validPieces [.t 4] 15 := ⟨mixed, Try.f14, _, Try.func14, rfl, by kernel_rfl, by kernel_rfl, rfl, by kernel_rfl, rfl⟩

def mc_impl_bestCuts : MC :=
  .seq (.reg [⟨some 4, none, .mv (.c .nilMap)⟩]) (.seq (.reg [⟨some 13, none, .mq .mk⟩, ⟨some 14, none, .call fn_impl_whole [.c (.int .i64 0)]⟩, ⟨none, none, .mq (.up (.t 13) (.c (.int .i64 0)) (.t 14) false)⟩, ⟨some 15, none, .mv (.t 13)⟩, ⟨some 16, none, .bsl 1 1 [.nilMap] [(0, .t 15)]⟩, ⟨some 5, none, .mv (.t 16)⟩]) (.seq (.seq (.reg [⟨some 6, none, .mv (.c (.int .i64 1))⟩]) (.block 0 (.loop (.seq (.seq (.reg [⟨some 17, none, .mv (.t 6)⟩, ⟨some 18, none, .mv (.t 0)⟩, ⟨some 19, none, .len (.t 18)⟩, ⟨some 20, none, .bin .leq (.t 17) (.t 19)⟩]) (.cond (.t 20) .skip (.exit 0))) (.seq (.block 1 (.seq (.reg [⟨some 23, none, .mq .mk⟩, ⟨some 7, none, .mv (.t 23)⟩]) (.seq (.seq (.reg [⟨some 24, none, .mv (.t 5)⟩, ⟨some 25, none, .len (.t 24)⟩, ⟨some 26, none, .mv (.c (.int .i64 0))⟩]) (.block 2 (.loop (.seq (.reg [⟨some 27, none, .bin .lss (.t 26) (.t 25)⟩]) (.seq (.cond (.t 27) .skip (.exit 2)) (.seq (.block 3 (.seq (.reg [⟨some 28, none, .mv (.t 26)⟩, ⟨some 29, none, .ixa (.t 24) (.t 26) 1⟩, ⟨some 30, none, .ld (.t 29) 1 false⟩, ⟨some 8, none, .mv (.t 28)⟩, ⟨some 9, none, .mv (.t 30)⟩]) (.seq (.reg [⟨some 31, none, .mv (.t 1)⟩, ⟨some 32, none, .mv (.t 0)⟩, ⟨some 33, none, .mv (.t 8)⟩, ⟨some 34, none, .mv (.t 6)⟩, ⟨some 35, none, .sl (.t 32) (some (.t 33)) (some (.t 34)) none 1⟩, ⟨some 36, none, .callv (.t 31) [.t 35]⟩, ⟨some 10, none, .new [.int .i64 0, .int .i64 0]⟩, ⟨none, none, .st (.t 10) (.t 36) 2⟩]) (.seq (.reg [⟨some 37, none, .mv (.t 9)⟩, ⟨some 38, none, .mq (.rg (.t 37))⟩]) (.block 4 (.loop (.seq (.reg [⟨some 39, none, .mq (.nx (.t 38))⟩, ⟨some 40, none, .ext (.t 39) 0⟩]) (.seq (.cond (.t 40) .skip (.exit 4)) (.block 5 (.seq (.reg [⟨some 41, none, .mq (.en (.t 38))⟩, ⟨some 42, none, .ext (.t 41) 0⟩, ⟨some 43, none, .ext (.t 41) 1⟩, ⟨some 12, none, .new [.int .i64 0, .int .i64 0]⟩, ⟨some 11, none, .mv (.t 42)⟩, ⟨none, none, .st (.t 12) (.t 43) 2⟩]) (.reg [⟨some 44, none, .mv (.t 7)⟩, ⟨some 45, none, .mv (.t 11)⟩, ⟨some 46, none, .bin .add (.t 45) (.c (.int .i64 1))⟩, ⟨some 47, none, .ld (.t 12) 2 true⟩, ⟨some 48, none, .ld (.t 10) 2 true⟩, ⟨some 49, none, .call fn_impl_Frac_plus [.t 47, .t 48]⟩, ⟨some 50, none, .call fn_impl_cuts_keep [.t 44, .t 46, .t 49]⟩]))))))))))) (.reg [⟨some 51, none, .bin .add (.t 26) (.c (.int .i64 1))⟩, ⟨some 26, none, .mv (.t 51)⟩]))))))) (.reg [⟨some 52, none, .mv (.t 5)⟩, ⟨some 53, none, .mv (.t 7)⟩, ⟨some 54, none, .bsl 1 1 [.nilMap] [(0, .t 53)]⟩, ⟨some 55, none, .app (.t 52) (.t 54) 1 8⟩, ⟨some 5, none, .mv (.t 55)⟩])))) (.reg [⟨some 21, none, .mv (.t 6)⟩, ⟨some 22, none, .bin .add (.t 21) (.c (.int .i64 1))⟩, ⟨some 6, none, .mv (.t 22)⟩])))))) (.seq (.reg [⟨some 56, none, .mv (.t 5)⟩, ⟨some 57, none, .mv (.t 0)⟩, ⟨some 58, none, .len (.t 57)⟩, ⟨some 59, none, .ixa (.t 56) (.t 58) 1⟩, ⟨some 60, none, .ld (.t 59) 1 false⟩, ⟨some 4, none, .mv (.t 60)⟩]) .ret)))
theorem code_impl_bestCuts : HasCode Try.prog fn_impl_bestCuts mc_impl_bestCuts [.t 4] 61 := ⟨mixed, Try.f15, _, Try.func15, rfl, by kernel_rfl, by kernel_rfl, rfl, by kernel_rfl, rfl⟩

def mc_impl_missedDistances : MC :=
  .seq (.reg [⟨some 2, none, .new [.int .i64 0, .int .i64 0]⟩]) (.seq (.reg [⟨some 7, none, .mv (.t 0)⟩, ⟨some 8, none, .call fn_impl_sortedCopy [.t 7]⟩, ⟨some 9, none, .mv (.t 0)⟩, ⟨some 10, none, .len (.t 9)⟩, ⟨some 11, none, .bin .quo (.t 10) (.c (.int .i64 2))⟩, ⟨some 12, none, .ixa (.t 8) (.t 11) 1⟩, ⟨some 13, none, .ld (.t 12) 1 false⟩, ⟨some 3, none, .mv (.t 13)⟩]) (.seq (.reg [⟨some 4, none, .mv (.c (.int .i64 0))⟩]) (.seq (.seq (.reg [⟨some 14, none, .mv (.t 0)⟩, ⟨some 15, none, .len (.t 14)⟩, ⟨some 16, none, .mv (.c (.int .i64 0))⟩]) (.block 0 (.loop (.seq (.reg [⟨some 17, none, .bin .lss (.t 16) (.t 15)⟩]) (.seq (.cond (.t 17) .skip (.exit 0)) (.seq (.block 1 (.seq (.reg [⟨some 18, none, .ixa (.t 14) (.t 16) 1⟩, ⟨some 19, none, .ld (.t 18) 1 false⟩, ⟨some 6, none, .mv (.t 19)⟩]) (.reg [⟨some 20, none, .mv (.t 4)⟩, ⟨some 21, none, .mv (.t 6)⟩, ⟨some 22, none, .mv (.t 3)⟩, ⟨some 23, none, .call fn_impl_apart [.t 21, .t 22]⟩, ⟨some 24, none, .bin .add (.t 20) (.t 23)⟩, ⟨some 4, none, .mv (.t 24)⟩]))) (.reg [⟨some 25, none, .bin .add (.t 16) (.c (.int .i64 1))⟩, ⟨some 16, none, .mv (.t 25)⟩]))))))) (.seq (.reg [⟨some 26, none, .mv (.t 4)⟩, ⟨some 27, none, .call fn_impl_whole [.t 26]⟩, ⟨none, none, .st (.t 2) (.t 27) 2⟩]) .ret))))
theorem code_impl_missedDistances : HasCode Try.prog fn_impl_missedDistances mc_impl_missedDistances [.c 2 2 true] 28 := ⟨mixed, Try.f16, _, Try.func16, rfl, by kernel_rfl, by kernel_rfl, rfl, by kernel_rfl, rfl⟩

def mc_impl_cuts_upTo : MC :=
  .seq (.reg [⟨some 4, none, .new [.int .i64 0, .int .i64 0]⟩]) (.seq (.reg [⟨some 5, none, .mv (.c (.int .i64 0))⟩]) (.seq (.seq (.reg [⟨some 7, none, .mv (.t 0)⟩, ⟨some 8, none, .mq (.rg (.t 7))⟩]) (.block 0 (.loop (.seq (.reg [⟨some 9, none, .mq (.nx (.t 8))⟩, ⟨some 10, none, .ext (.t 9) 0⟩]) (.seq (.cond (.t 10) .skip (.exit 0)) (.block 1 (.seq (.reg [⟨some 11, none, .mq (.en (.t 8))⟩, ⟨some 12, none, .ext (.t 11) 0⟩, ⟨some 6, none, .mv (.t 12)⟩]) (.seq (.reg [⟨some 13, none, .mv (.t 6)⟩, ⟨some 14, none, .mv (.t 1)⟩, ⟨some 15, none, .bin .leq (.t 13) (.t 14)⟩]) (.cond (.t 15) (.reg [⟨some 16, none, .mv (.t 5)⟩, ⟨some 17, none, .mv (.t 6)⟩, ⟨some 18, none, .mnmx true (.t 16) [.t 17]⟩, ⟨some 5, none, .mv (.t 18)⟩]) .skip))))))))) (.seq (.reg [⟨some 19, none, .mv (.t 0)⟩, ⟨some 20, none, .mv (.t 5)⟩, ⟨some 21, none, .mq (.lk (.t 19) (.t 20) false false (.agg [.int .i64 0, .int .i64 0]))⟩, ⟨none, none, .st (.t 4) (.t 21) 2⟩]) .ret)))
theorem code_impl_cuts_upTo : HasCode Try.prog fn_impl_cuts_upTo mc_impl_cuts_upTo [.c 4 2 true] 22 := ⟨mixed, Try.f17, _, Try.func17, rfl, by kernel_rfl, by kernel_rfl, rfl, by kernel_rfl, rfl⟩

def mc_spec_newReader : MC :=
  .seq (.reg [⟨some 2, none, .mv (.c .nilPtr)⟩]) (.seq (.seq (.reg [⟨some 3, none, .mv (.t 0)⟩, ⟨some 4, none, .len (.t 3)⟩, ⟨some 5, none, .bin .gtr (.t 4) (.c (.int .i64 2000))⟩]) (.cond (.t 5) (.reg [⟨some 6, none, .mv (.t 0)⟩, ⟨some 7, none, .sl (.t 6) none (some (.c (.int .i64 2000))) none 1⟩, ⟨some 0, none, .mv (.t 7)⟩]) .skip)) (.seq (.reg [⟨some 8, none, .mv (.t 0)⟩, ⟨some 9, none, .bld [.nilSlice, .int .i64 0] [(0, 1, .t 8)]⟩, ⟨some 10, none, .box (.t 9)⟩, ⟨some 2, none, .mv (.t 10)⟩]) .ret))
theorem code_spec_newReader : HasCode Try.prog fn_spec_newReader mc_spec_newReader [.t 2] 11 := ⟨mixed, Try.f18, _, Try.func18, rfl, by kernel_rfl, by kernel_rfl, rfl, by kernel_rfl, rfl⟩

def mc_spec_stepList : MC :=
  .seq (.reg [⟨some 2, none, .mv (.c .nilSlice)⟩]) (.seq (.reg [⟨some 6, none, .bsl 0 1 [.int .i64 0] []⟩, ⟨some 3, none, .mv (.t 6)⟩]) (.seq (.reg [⟨some 4, none, .mv (.c (.int .i64 0))⟩]) (.seq (.seq (.reg [⟨some 7, none, .mv (.t 0)⟩, ⟨some 8, none, .bsl 9 1 [.int .i64 0] [(0, .c (.int .i64 5)), (1, .c (.int .i64 6)), (2, .c (.int .i64 4)), (3, .c (.int .i64 7)), (4, .c (.int .i64 3)), (5, .c (.int .i64 8)), (6, .c (.int .i64 2)), (7, .c (.int .i64 1)), (8, .c (.int .i64 0))]⟩, ⟨some 9, none, .call fn_spec_reader_one [.t 7, .t 8]⟩, ⟨some 5, none, .mv (.t 9)⟩]) (.block 0 (.loop (.seq (.seq (.reg [⟨some 10, none, .mv (.t 3)⟩, ⟨some 11, none, .len (.t 10)⟩, ⟨some 12, none, .mv (.t 5)⟩, ⟨some 13, none, .bin .lss (.t 11) (.t 12)⟩]) (.cond (.t 13) .skip (.exit 0))) (.block 1 (.seq (.seq (.reg [⟨some 14, none, .mv (.t 0)⟩, ⟨some 15, none, .call fn_spec_reader_pick [.t 14, .c (.int .i64 3)]⟩, ⟨some 16, none, .bin .eql (.t 15) (.c (.int .i64 0))⟩]) (.cond (.t 16) (.reg [⟨some 17, none, .mv (.t 0)⟩, ⟨some 18, none, .call fn_spec_reader_pick [.t 17, .c (.int .i64 31)]⟩, ⟨some 19, none, .bin .sub (.t 18) (.c (.int .i64 15))⟩, ⟨some 4, none, .mv (.t 19)⟩]) .skip)) (.reg [⟨some 20, none, .mv (.t 3)⟩, ⟨some 21, none, .mv (.t 4)⟩, ⟨some 22, none, .mv (.t 0)⟩, ⟨some 23, none, .call fn_spec_reader_pick [.t 22, .c (.int .i64 4)]⟩, ⟨some 24, none, .bin .add (.t 21) (.t 23)⟩, ⟨some 25, none, .bsl 1 1 [.int .i64 0] [(0, .t 24)]⟩, ⟨some 26, none, .app (.t 20) (.t 25) 1 8⟩, ⟨some 3, none, .mv (.t 26)⟩]))))))) (.seq (.seq (.reg [⟨some 27, none, .mv (.t 0)⟩, ⟨some 28, none, .call fn_spec_reader_pick [.t 27, .c (.int .i64 40)]⟩]) (.block 2 (.seq (.reg [⟨some 30, none, .bin .eql (.t 28) (.c (.int .i64 0))⟩, ⟨some 29, none, .mv (.t 30)⟩]) (.cond (.t 29) (.seq (.reg [⟨some 31, none, .mv (.t 3)⟩, ⟨some 32, none, .bsl 1 1 [.int .i64 0] [(0, .c (.int .i64 31))]⟩, ⟨some 33, none, .app (.t 31) (.t 32) 1 8⟩, ⟨some 2, none, .mv (.t 33)⟩]) .ret) (.seq (.reg [⟨some 35, none, .bin .eql (.t 28) (.c (.int .i64 1))⟩, ⟨some 34, none, .mv (.t 35)⟩]) (.cond (.t 34) (.seq (.reg [⟨some 36, none, .mv (.t 3)⟩, ⟨some 37, none, .bsl 9 1 [.int .i64 0] [(0, .c (.int .i64 1)), (1, .c (.int .i64 1)), (2, .c (.int .i64 1)), (3, .c (.int .i64 1)), (4, .c (.int .i64 1)), (5, .c (.int .i64 1)), (6, .c (.int .i64 1)), (7, .c (.int .i64 1)), (8, .c (.int .i64 1))]⟩, ⟨some 38, none, .app (.t 36) (.t 37) 1 8⟩, ⟨some 2, none, .mv (.t 38)⟩]) .ret) .skip)))))) (.seq (.reg [⟨some 39, none, .mv (.t 3)⟩, ⟨some 2, none, .mv (.t 39)⟩]) .ret)))))
theorem code_spec_stepList : HasCode Try.prog fn_spec_stepList mc_spec_stepList [.t 2] 40 := ⟨mixed, Try.f19, _, Try.func19, rfl, by kernel_rfl, by kernel_rfl, rfl, by kernel_rfl, rfl⟩

def mc_spec_reader_one : MC :=
  .seq (.reg [⟨some 4, none, .mv (.c (.int .i64 0))⟩]) (.seq (.reg [⟨some 5, none, .mv (.t 1)⟩, ⟨some 6, none, .mv (.t 0)⟩, ⟨some 7, none, .mv (.t 1)⟩, ⟨some 8, none, .len (.t 7)⟩, ⟨some 9, none, .call fn_spec_reader_pick [.t 6, .t 8]⟩, ⟨some 10, none, .ixa (.t 5) (.t 9) 1⟩, ⟨some 11, none, .ld (.t 10) 1 false⟩, ⟨some 4, none, .mv (.t 11)⟩]) .ret)
theorem code_spec_reader_one : HasCode Try.prog fn_spec_reader_one mc_spec_reader_one [.t 4] 12 := ⟨mixed, Try.f20, _, Try.func20, rfl, by kernel_rfl, by kernel_rfl, rfl, by kernel_rfl, rfl⟩

def mc_spec_sorted : MC :=
  .seq (.reg [⟨some 2, none, .mv (.c .nilSlice)⟩]) (.seq (.reg [⟨some 6, none, .bsl 0 1 [.int .i64 0] []⟩, ⟨some 3, none, .mv (.t 6)⟩]) (.seq (.seq (.reg [⟨some 4, none, .mv (.c (.int .i64 0))⟩]) (.block 0 (.loop (.seq (.seq (.reg [⟨some 7, none, .mv (.t 4)⟩, ⟨some 8, none, .mv (.t 0)⟩, ⟨some 9, none, .len (.t 8)⟩, ⟨some 10, none, .bin .lss (.t 7) (.t 9)⟩]) (.cond (.t 10) .skip (.exit 0))) (.seq (.block 1 (.seq (.reg [⟨some 5, none, .mv (.c (.int .i64 0))⟩]) (.seq (.block 2 (.loop (.seq (.seq (.drq [⟨some 13, none, .mv (.t 5)⟩, ⟨some 14, none, .mv (.t 3)⟩, ⟨some 15, none, .len (.t 14)⟩, ⟨some 16, none, .bin .lss (.t 13) (.t 15)⟩, ⟨some 17, none, .mv (.t 16)⟩, ⟨some 18, some (17, true), .mv (.t 3)⟩, ⟨some 19, some (17, true), .mv (.t 5)⟩, ⟨some 20, some (17, true), .ixa (.t 18) (.t 19) 1⟩, ⟨some 21, some (17, true), .ld (.t 20) 1 false⟩, ⟨some 22, some (17, true), .mv (.t 0)⟩, ⟨some 23, some (17, true), .mv (.t 4)⟩, ⟨some 24, some (17, true), .ixa (.t 22) (.t 23) 1⟩, ⟨some 25, some (17, true), .ld (.t 24) 1 false⟩, ⟨some 26, some (17, true), .bin .leq (.t 21) (.t 25)⟩, ⟨some 27, none, .pick (.t 17) (.t 26) (.c (.bool false))⟩]) (.cond (.t 27) .skip (.exit 2))) (.block 3 (.reg [⟨some 28, none, .mv (.t 5)⟩, ⟨some 29, none, .bin .add (.t 28) (.c (.int .i64 1))⟩, ⟨some 5, none, .mv (.t 29)⟩]))))) (.drw [⟨some 30, none, .bsl 0 1 [.int .i64 0] []⟩, ⟨some 31, none, .mv (.t 3)⟩, ⟨some 32, none, .mv (.t 5)⟩, ⟨some 33, none, .sl (.t 31) none (some (.t 32)) none 1⟩, ⟨some 34, none, .app (.t 30) (.t 33) 1 8⟩, ⟨some 35, none, .mv (.t 0)⟩, ⟨some 36, none, .mv (.t 4)⟩, ⟨some 37, none, .ixa (.t 35) (.t 36) 1⟩, ⟨some 38, none, .ld (.t 37) 1 false⟩, ⟨some 39, none, .bsl 1 1 [.int .i64 0] [(0, .t 38)]⟩, ⟨some 40, none, .app (.t 34) (.t 39) 1 8⟩, ⟨some 41, none, .mv (.t 3)⟩, ⟨some 42, none, .mv (.t 5)⟩, ⟨some 43, none, .sl (.t 41) (some (.t 42)) none none 1⟩, ⟨some 44, none, .app (.t 40) (.t 43) 1 8⟩, ⟨some 3, none, .mv (.t 44)⟩] [(0, 8), (4, 8), (0, 9), (4, 9)])))) (.reg [⟨some 11, none, .mv (.t 4)⟩, ⟨some 12, none, .bin .add (.t 11) (.c (.int .i64 1))⟩, ⟨some 4, none, .mv (.t 12)⟩])))))) (.seq (.reg [⟨some 45, none, .mv (.t 3)⟩, ⟨some 2, none, .mv (.t 45)⟩]) .ret)))
theorem code_spec_sorted : HasCode Try.prog fn_spec_sorted mc_spec_sorted [.t 2] 46 := ⟨mixed, Try.f21, _, Try.func21, rfl, by kernel_rfl, by kernel_rfl, rfl, by kernel_rfl, rfl⟩

def mc_impl_validHeights : MC :=
  .seq (.reg [⟨some 2, none, .mv (.c (.bool false))⟩]) (.seq (.seq (.reg [⟨some 5, none, .mv (.t 0)⟩, ⟨some 6, none, .len (.t 5)⟩, ⟨some 7, none, .bin .lss (.t 6) (.c (.int .i64 1))⟩, ⟨some 8, none, .mv (.t 7)⟩, ⟨some 9, some (8, false), .mv (.t 0)⟩, ⟨some 10, some (8, false), .len (.t 9)⟩, ⟨some 11, some (8, false), .bin .gtr (.t 10) (.c (.int .i64 8))⟩, ⟨some 12, none, .pick (.t 8) (.c (.bool true)) (.t 11)⟩]) (.cond (.t 12) (.seq (.reg [⟨some 2, none, .mv (.c (.bool false))⟩]) .ret) .skip)) (.seq (.seq (.reg [⟨some 13, none, .mv (.t 0)⟩, ⟨some 14, none, .len (.t 13)⟩, ⟨some 15, none, .mv (.c (.int .i64 0))⟩]) (.block 0 (.loop (.seq (.reg [⟨some 16, none, .bin .lss (.t 15) (.t 14)⟩]) (.seq (.cond (.t 16) .skip (.exit 0)) (.seq (.block 1 (.seq (.reg [⟨some 17, none, .ixa (.t 13) (.t 15) 1⟩, ⟨some 18, none, .ld (.t 17) 1 false⟩, ⟨some 4, none, .mv (.t 18)⟩]) (.seq (.reg [⟨some 19, none, .mv (.t 4)⟩, ⟨some 20, none, .bin .lss (.t 19) (.c (.int .i64 (-30)))⟩, ⟨some 21, none, .mv (.t 20)⟩, ⟨some 22, some (21, false), .mv (.t 4)⟩, ⟨some 23, some (21, false), .bin .gtr (.t 22) (.c (.int .i64 30))⟩, ⟨some 24, none, .pick (.t 21) (.c (.bool true)) (.t 23)⟩]) (.cond (.t 24) (.seq (.reg [⟨some 2, none, .mv (.c (.bool false))⟩]) .ret) .skip)))) (.reg [⟨some 25, none, .bin .add (.t 15) (.c (.int .i64 1))⟩, ⟨some 15, none, .mv (.t 25)⟩]))))))) (.seq (.reg [⟨some 2, none, .mv (.c (.bool true))⟩]) .ret)))
theorem code_impl_validHeights : HasCode Try.prog fn_impl_validHeights mc_impl_validHeights [.t 2] 26 := ⟨mixed, Try.f22, _, Try.func22, rfl, by kernel_rfl, by kernel_rfl, rfl, by kernel_rfl, rfl⟩

def mc_impl_whole : MC :=
  .seq (.reg [⟨some 2, none, .new [.int .i64 0, .int .i64 0]⟩]) (.seq (.reg [⟨some 3, none, .mv (.t 0)⟩, ⟨some 4, none, .bld [.int .i64 0, .int .i64 0] [(0, 1, .t 3), (1, 1, .c (.int .i64 1))]⟩, ⟨none, none, .st (.t 2) (.t 4) 2⟩]) .ret)
theorem code_impl_whole : HasCode Try.prog fn_impl_whole mc_impl_whole [.c 2 2 true] 5 := ⟨mixed, Try.f23, _, Try.func23, rfl, by kernel_rfl, by kernel_rfl, rfl, by kernel_rfl, rfl⟩

def mc_impl_cuts_keep : MC :=
  .seq (.reg [⟨some 5, none, .box (.t 2)⟩]) (.seq (.seq (.reg [⟨some 10, none, .mv (.t 0)⟩, ⟨some 11, none, .mq (.rg (.t 10))⟩]) (.block 0 (.loop (.seq (.reg [⟨some 12, none, .mq (.nx (.t 11))⟩, ⟨some 13, none, .ext (.t 12) 0⟩]) (.seq (.cond (.t 13) .skip (.exit 0)) (.block 1 (.seq (.reg [⟨some 14, none, .mq (.en (.t 11))⟩, ⟨some 15, none, .ext (.t 14) 0⟩, ⟨some 16, none, .ext (.t 14) 1⟩, ⟨some 7, none, .new [.int .i64 0, .int .i64 0]⟩, ⟨some 6, none, .mv (.t 15)⟩, ⟨none, none, .st (.t 7) (.t 16) 2⟩]) (.seq (.reg [⟨some 17, none, .mv (.t 6)⟩, ⟨some 18, none, .mv (.t 1)⟩, ⟨some 19, none, .bin .leq (.t 17) (.t 18)⟩, ⟨some 20, none, .mv (.t 19)⟩, ⟨some 21, some (20, true), .ld (.t 7) 2 true⟩, ⟨some 22, some (20, true), .ld (.t 5) 2 true⟩, ⟨some 23, some (20, true), .call fn_impl_Frac_compare [.t 21, .t 22]⟩, ⟨some 24, some (20, true), .bin .leq (.t 23) (.c (.int .i64 0))⟩, ⟨some 25, none, .pick (.t 20) (.t 24) (.c (.bool false))⟩]) (.cond (.t 25) .ret .skip))))))))) (.seq (.seq (.reg [⟨some 26, none, .mv (.t 0)⟩, ⟨some 27, none, .mq (.rg (.t 26))⟩]) (.block 2 (.loop (.seq (.reg [⟨some 28, none, .mq (.nx (.t 27))⟩, ⟨some 29, none, .ext (.t 28) 0⟩]) (.seq (.cond (.t 29) .skip (.exit 2)) (.block 3 (.seq (.reg [⟨some 30, none, .mq (.en (.t 27))⟩, ⟨some 31, none, .ext (.t 30) 0⟩, ⟨some 32, none, .ext (.t 30) 1⟩, ⟨some 9, none, .new [.int .i64 0, .int .i64 0]⟩, ⟨some 8, none, .mv (.t 31)⟩, ⟨none, none, .st (.t 9) (.t 32) 2⟩]) (.seq (.reg [⟨some 33, none, .mv (.t 8)⟩, ⟨some 34, none, .mv (.t 1)⟩, ⟨some 35, none, .bin .geq (.t 33) (.t 34)⟩, ⟨some 36, none, .mv (.t 35)⟩, ⟨some 37, some (36, true), .ld (.t 9) 2 true⟩, ⟨some 38, some (36, true), .ld (.t 5) 2 true⟩, ⟨some 39, some (36, true), .call fn_impl_Frac_compare [.t 37, .t 38]⟩, ⟨some 40, some (36, true), .bin .geq (.t 39) (.c (.int .i64 0))⟩, ⟨some 41, none, .pick (.t 36) (.t 40) (.c (.bool false))⟩]) (.cond (.t 41) (.reg [⟨some 42, none, .mv (.t 0)⟩, ⟨some 43, none, .mv (.t 8)⟩, ⟨none, none, .mq (.dl (.t 42) (.t 43) false)⟩]) .skip))))))))) (.reg [⟨some 44, none, .mv (.t 0)⟩, ⟨some 45, none, .mv (.t 1)⟩, ⟨some 46, none, .ld (.t 5) 2 true⟩, ⟨none, none, .mq (.up (.t 44) (.t 45) (.t 46) false)⟩])))
theorem code_impl_cuts_keep : HasCode Try.prog fn_impl_cuts_keep mc_impl_cuts_keep [] 47 := ⟨mixed, Try.f24, _, Try.func24, rfl, by kernel_rfl, by kernel_rfl, rfl, by kernel_rfl, rfl⟩

def mc_impl_Frac_plus : MC :=
  .seq (.reg [⟨some 2, none, .box (.t 0)⟩, ⟨some 3, none, .box (.t 1)⟩, ⟨some 4, none, .new [.int .i64 0, .int .i64 0]⟩]) (.seq (.reg [⟨some 5, none, .fa (.t 2) 0⟩, ⟨some 6, none, .ld (.t 5) 1 false⟩, ⟨some 7, none, .fa (.t 3) 1⟩, ⟨some 8, none, .ld (.t 7) 1 false⟩, ⟨some 9, none, .bin .mul (.t 6) (.t 8)⟩, ⟨some 10, none, .fa (.t 3) 0⟩, ⟨some 11, none, .ld (.t 10) 1 false⟩, ⟨some 12, none, .fa (.t 2) 1⟩, ⟨some 13, none, .ld (.t 12) 1 false⟩, ⟨some 14, none, .bin .mul (.t 11) (.t 13)⟩, ⟨some 15, none, .bin .add (.t 9) (.t 14)⟩, ⟨some 16, none, .fa (.t 2) 1⟩, ⟨some 17, none, .ld (.t 16) 1 false⟩, ⟨some 18, none, .fa (.t 3) 1⟩, ⟨some 19, none, .ld (.t 18) 1 false⟩, ⟨some 20, none, .bin .mul (.t 17) (.t 19)⟩, ⟨some 21, none, .call fn_impl_lowest [.t 15, .t 20]⟩, ⟨none, none, .st (.t 4) (.t 21) 2⟩]) .ret)
theorem code_impl_Frac_plus : HasCode Try.prog fn_impl_Frac_plus mc_impl_Frac_plus [.c 4 2 true] 22 := ⟨mixed, Try.f25, _, Try.func25, rfl, by kernel_rfl, by kernel_rfl, rfl, by kernel_rfl, rfl⟩

def mc_impl_sortedCopy : MC :=
  .seq (.reg [⟨some 2, none, .mv (.c .nilSlice)⟩]) (.seq (.reg [⟨some 4, none, .mv (.t 0)⟩, ⟨some 5, none, .call fn_slices_Clone_ints [.t 4]⟩, ⟨some 3, none, .mv (.t 5)⟩]) (.seq (.reg [⟨some 6, none, .mv (.t 3)⟩, ⟨some 7, none, .call fn_slices_Sort_ints [.t 6]⟩]) (.seq (.reg [⟨some 8, none, .mv (.t 3)⟩, ⟨some 2, none, .mv (.t 8)⟩]) .ret)))
theorem code_impl_sortedCopy : HasCode Try.prog fn_impl_sortedCopy mc_impl_sortedCopy [.t 2] 9 := ⟨mixed, Try.f26, _, Try.func26, rfl, by kernel_rfl, by kernel_rfl, rfl, by kernel_rfl, rfl⟩

def mc_impl_apart : MC :=
  .seq (.reg [⟨some 4, none, .mv (.c (.int .i64 0))⟩]) (.seq (.reg [⟨some 5, none, .mv (.t 0)⟩, ⟨some 6, none, .mv (.t 1)⟩, ⟨some 7, none, .bin .sub (.t 5) (.t 6)⟩, ⟨some 8, none, .mv (.t 1)⟩, ⟨some 9, none, .mv (.t 0)⟩, ⟨some 10, none, .bin .sub (.t 8) (.t 9)⟩, ⟨some 11, none, .mnmx true (.t 7) [.t 10]⟩, ⟨some 4, none, .mv (.t 11)⟩]) .ret)
theorem code_impl_apart : HasCode Try.prog fn_impl_apart mc_impl_apart [.t 4] 12 := ⟨mixed, Try.f27, _, Try.func27, rfl, by kernel_rfl, by kernel_rfl, rfl, by kernel_rfl, rfl⟩

def mc_spec_reader_pick : MC :=
  .seq (.reg [⟨some 4, none, .mv (.c (.int .i64 0))⟩]) (.seq (.reg [⟨some 7, none, .mv (.t 0)⟩, ⟨some 8, none, .mv (.t 0)⟩, ⟨some 9, none, .nilck (.t 8)⟩, ⟨some 10, none, .fa (.t 9) 1⟩, ⟨some 11, none, .ld (.t 10) 1 false⟩, ⟨some 12, none, .bin .add (.t 11) (.c (.int .i64 1))⟩, ⟨some 13, none, .nilck (.t 7)⟩, ⟨some 14, none, .fa (.t 13) 1⟩, ⟨none, none, .st (.t 14) (.t 12) 1⟩]) (.seq (.seq (.reg [⟨some 15, none, .mv (.t 1)⟩, ⟨some 16, none, .bin .lss (.t 15) (.c (.int .i64 1))⟩, ⟨some 17, none, .mv (.t 16)⟩, ⟨some 18, some (17, false), .mv (.t 0)⟩, ⟨some 19, some (17, false), .nilck (.t 18)⟩, ⟨some 20, some (17, false), .fa (.t 19) 0⟩, ⟨some 21, some (17, false), .ld (.t 20) 1 false⟩, ⟨some 22, some (17, false), .len (.t 21)⟩, ⟨some 23, some (17, false), .bin .eql (.t 22) (.c (.int .i64 0))⟩, ⟨some 24, none, .pick (.t 17) (.c (.bool true)) (.t 23)⟩]) (.cond (.t 24) (.seq (.reg [⟨some 4, none, .mv (.c (.int .i64 0))⟩]) .ret) .skip)) (.seq (.reg [⟨some 25, none, .mv (.t 0)⟩, ⟨some 26, none, .nilck (.t 25)⟩, ⟨some 27, none, .fa (.t 26) 1⟩, ⟨some 28, none, .ld (.t 27) 1 false⟩, ⟨some 29, none, .bin .sub (.t 28) (.c (.int .i64 1))⟩, ⟨some 5, none, .mv (.t 29)⟩]) (.seq (.seq (.reg [⟨some 30, none, .mv (.t 5)⟩, ⟨some 31, none, .mv (.t 0)⟩, ⟨some 32, none, .nilck (.t 31)⟩, ⟨some 33, none, .fa (.t 32) 0⟩, ⟨some 34, none, .ld (.t 33) 1 false⟩, ⟨some 35, none, .len (.t 34)⟩, ⟨some 36, none, .bin .lss (.t 30) (.t 35)⟩]) (.cond (.t 36) (.seq (.reg [⟨some 37, none, .mv (.t 0)⟩, ⟨some 38, none, .nilck (.t 37)⟩, ⟨some 39, none, .fa (.t 38) 0⟩, ⟨some 40, none, .ld (.t 39) 1 false⟩, ⟨some 41, none, .mv (.t 5)⟩, ⟨some 42, none, .ixa (.t 40) (.t 41) 1⟩, ⟨some 43, none, .ld (.t 42) 1 false⟩, ⟨some 44, none, .conv .i64 (.t 43)⟩, ⟨some 45, none, .mv (.t 1)⟩, ⟨some 46, none, .bin .rem (.t 44) (.t 45)⟩, ⟨some 4, none, .mv (.t 46)⟩]) .ret) .skip)) (.seq (.drq [⟨some 47, none, .mv (.t 0)⟩, ⟨some 48, none, .nilck (.t 47)⟩, ⟨some 49, none, .fa (.t 48) 0⟩, ⟨some 50, none, .ld (.t 49) 1 false⟩, ⟨some 51, none, .mv (.t 5)⟩, ⟨some 52, none, .mv (.t 0)⟩, ⟨some 53, none, .nilck (.t 52)⟩, ⟨some 54, none, .fa (.t 53) 0⟩, ⟨some 55, none, .ld (.t 54) 1 false⟩, ⟨some 56, none, .len (.t 55)⟩, ⟨some 57, none, .bin .rem (.t 51) (.t 56)⟩, ⟨some 58, none, .ixa (.t 50) (.t 57) 1⟩, ⟨some 59, none, .ld (.t 58) 1 false⟩, ⟨some 60, none, .conv .i64 (.t 59)⟩, ⟨some 61, none, .bin .mul (.t 60) (.c (.int .i64 131))⟩, ⟨some 62, none, .mv (.t 0)⟩, ⟨some 63, none, .nilck (.t 62)⟩, ⟨some 64, none, .fa (.t 63) 0⟩, ⟨some 65, none, .ld (.t 64) 1 false⟩, ⟨some 66, none, .mv (.t 5)⟩, ⟨some 67, none, .bin .mul (.t 66) (.c (.int .i64 7))⟩, ⟨some 68, none, .bin .add (.t 67) (.c (.int .i64 3))⟩, ⟨some 69, none, .mv (.t 0)⟩, ⟨some 70, none, .nilck (.t 69)⟩, ⟨some 71, none, .fa (.t 70) 0⟩, ⟨some 72, none, .ld (.t 71) 1 false⟩, ⟨some 73, none, .len (.t 72)⟩, ⟨some 74, none, .bin .rem (.t 68) (.t 73)⟩, ⟨some 75, none, .ixa (.t 65) (.t 74) 1⟩, ⟨some 76, none, .ld (.t 75) 1 false⟩, ⟨some 77, none, .conv .i64 (.t 76)⟩, ⟨some 78, none, .bin .mul (.t 77) (.c (.int .i64 1117))⟩, ⟨some 79, none, .bin .add (.t 61) (.t 78)⟩, ⟨some 80, none, .mv (.t 5)⟩, ⟨some 81, none, .bin .mul (.t 80) (.c (.int .i64 29))⟩, ⟨some 82, none, .bin .add (.t 79) (.t 81)⟩, ⟨some 83, none, .mv (.t 5)⟩, ⟨some 84, none, .mv (.t 0)⟩, ⟨some 85, none, .nilck (.t 84)⟩, ⟨some 86, none, .fa (.t 85) 0⟩, ⟨some 87, none, .ld (.t 86) 1 false⟩, ⟨some 88, none, .len (.t 87)⟩, ⟨some 89, none, .bin .quo (.t 83) (.t 88)⟩, ⟨some 90, none, .bin .mul (.t 89) (.c (.int .i64 53))⟩, ⟨some 91, none, .bin .add (.t 82) (.t 90)⟩, ⟨some 6, none, .mv (.t 91)⟩]) (.seq (.reg [⟨some 92, none, .mv (.t 6)⟩, ⟨some 93, none, .mv (.t 6)⟩, ⟨some 94, none, .bin .quo (.t 93) (.c (.int .i64 64))⟩, ⟨some 95, none, .bin .xor (.t 92) (.t 94)⟩, ⟨some 6, none, .mv (.t 95)⟩]) (.seq (.reg [⟨some 96, none, .mv (.t 6)⟩, ⟨some 97, none, .mv (.t 1)⟩, ⟨some 98, none, .bin .rem (.t 96) (.t 97)⟩, ⟨some 4, none, .mv (.t 98)⟩]) .ret)))))))
theorem code_spec_reader_pick : HasCode Try.prog fn_spec_reader_pick mc_spec_reader_pick [.t 4] 99 := ⟨mixed, Try.f28, _, Try.func28, rfl, by kernel_rfl, by kernel_rfl, rfl, by kernel_rfl, rfl⟩

def mc_impl_Frac_compare : MC :=
  .seq (.reg [⟨some 2, none, .box (.t 0)⟩, ⟨some 3, none, .box (.t 1)⟩, ⟨some 4, none, .mv (.c (.int .i64 0))⟩]) (.seq (.reg [⟨some 5, none, .fa (.t 2) 0⟩, ⟨some 6, none, .ld (.t 5) 1 false⟩, ⟨some 7, none, .fa (.t 3) 1⟩, ⟨some 8, none, .ld (.t 7) 1 false⟩, ⟨some 9, none, .bin .mul (.t 6) (.t 8)⟩, ⟨some 10, none, .fa (.t 3) 0⟩, ⟨some 11, none, .ld (.t 10) 1 false⟩, ⟨some 12, none, .fa (.t 2) 1⟩, ⟨some 13, none, .ld (.t 12) 1 false⟩, ⟨some 14, none, .bin .mul (.t 11) (.t 13)⟩, ⟨some 15, none, .call fn_cmp_Compare_int [.t 9, .t 14]⟩, ⟨some 4, none, .mv (.t 15)⟩]) .ret)
theorem code_impl_Frac_compare : HasCode Try.prog fn_impl_Frac_compare mc_impl_Frac_compare [.t 4] 16 := ⟨mixed, Try.f29, _, Try.func29, rfl, by kernel_rfl, by kernel_rfl, rfl, by kernel_rfl, rfl⟩

def mc_impl_lowest : MC :=
  .seq (.reg [⟨some 4, none, .new [.int .i64 0, .int .i64 0]⟩]) (.seq (.reg [⟨some 6, none, .mv (.t 0)⟩, ⟨some 7, none, .mv (.t 1)⟩, ⟨some 8, none, .call fn_impl_commonFactor [.t 6, .t 7]⟩, ⟨some 5, none, .mv (.t 8)⟩]) (.seq (.seq (.reg [⟨some 9, none, .mv (.t 1)⟩, ⟨some 10, none, .bin .lss (.t 9) (.c (.int .i64 0))⟩]) (.cond (.t 10) (.reg [⟨some 11, none, .mv (.t 5)⟩, ⟨some 12, none, .un .neg (.t 11)⟩, ⟨some 5, none, .mv (.t 12)⟩]) .skip)) (.seq (.drw [⟨some 13, none, .mv (.t 0)⟩, ⟨some 14, none, .mv (.t 5)⟩, ⟨some 15, none, .bin .quo (.t 13) (.t 14)⟩, ⟨some 16, none, .mv (.t 1)⟩, ⟨some 17, none, .mv (.t 5)⟩, ⟨some 18, none, .bin .quo (.t 16) (.t 17)⟩, ⟨some 19, none, .bld [.int .i64 0, .int .i64 0] [(0, 1, .t 15), (1, 1, .t 18)]⟩, ⟨none, none, .st (.t 4) (.t 19) 2⟩] []) .ret)))
theorem code_impl_lowest : HasCode Try.prog fn_impl_lowest mc_impl_lowest [.c 4 2 true] 20 := ⟨mixed, Try.f30, _, Try.func30, rfl, by kernel_rfl, by kernel_rfl, rfl, by kernel_rfl, rfl⟩

def mc_slices_Clone_ints : MC :=
  .seq (.reg [⟨some 2, none, .mv (.c .nilSlice)⟩]) (.seq (.seq (.reg [⟨some 3, none, .mv (.t 0)⟩, ⟨some 4, none, .nileq false (.t 3) (.c .nilSlice)⟩]) (.cond (.t 4) (.seq (.reg [⟨some 2, none, .mv (.c .nilSlice)⟩]) .ret) .skip)) (.seq (.reg [⟨some 5, none, .bsl 0 1 [.int .i64 0] []⟩, ⟨some 6, none, .mv (.t 0)⟩, ⟨some 7, none, .app (.t 5) (.t 6) 1 8⟩, ⟨some 2, none, .mv (.t 7)⟩]) .ret))
theorem code_slices_Clone_ints : HasCode Try.prog fn_slices_Clone_ints mc_slices_Clone_ints [.t 2] 8 := ⟨mixed, Try.f31, _, Try.func31, rfl, by kernel_rfl, by kernel_rfl, rfl, by kernel_rfl, rfl⟩

def mc_slices_Sort_ints : MC :=
  .seq (.reg [⟨some 3, none, .mv (.t 0)⟩, ⟨some 4, none, .len (.t 3)⟩, ⟨some 2, none, .mv (.t 4)⟩]) (.reg [⟨some 5, none, .mv (.t 0)⟩, ⟨some 6, none, .mv (.t 2)⟩, ⟨some 7, none, .mv (.t 2)⟩, ⟨some 8, none, .conv .u64 (.t 7)⟩, ⟨some 9, none, .call fn_math_bits_Len [.t 8]⟩, ⟨some 10, none, .call fn_slices_pdqsortOrdered_int [.t 5, .c (.int .i64 0), .t 6, .t 9]⟩])
theorem code_slices_Sort_ints : HasCode Try.prog fn_slices_Sort_ints mc_slices_Sort_ints [] 11 := ⟨mixed, Try.f32, _, Try.func32, rfl, by kernel_rfl, by kernel_rfl, rfl, by kernel_rfl, rfl⟩

def mc_cmp_Compare_int : MC :=
  .seq (.reg [⟨some 4, none, .mv (.c (.int .i64 0))⟩]) (.seq (.reg [⟨some 7, none, .mv (.t 0)⟩, ⟨some 8, none, .call fn_cmp_isNaN_int [.t 7]⟩, ⟨some 5, none, .mv (.t 8)⟩]) (.seq (.reg [⟨some 9, none, .mv (.t 1)⟩, ⟨some 10, none, .call fn_cmp_isNaN_int [.t 9]⟩, ⟨some 6, none, .mv (.t 10)⟩]) (.seq (.seq (.reg [⟨some 11, none, .mv (.t 5)⟩]) (.cond (.t 11) (.seq (.seq (.reg [⟨some 12, none, .mv (.t 6)⟩]) (.cond (.t 12) (.seq (.reg [⟨some 4, none, .mv (.c (.int .i64 0))⟩]) .ret) .skip)) (.seq (.reg [⟨some 4, none, .mv (.c (.int .i64 (-1)))⟩]) .ret)) .skip)) (.seq (.seq (.reg [⟨some 13, none, .mv (.t 6)⟩]) (.cond (.t 13) (.seq (.reg [⟨some 4, none, .mv (.c (.int .i64 1))⟩]) .ret) .skip)) (.seq (.seq (.reg [⟨some 14, none, .mv (.t 0)⟩, ⟨some 15, none, .mv (.t 1)⟩, ⟨some 16, none, .bin .lss (.t 14) (.t 15)⟩]) (.cond (.t 16) (.seq (.reg [⟨some 4, none, .mv (.c (.int .i64 (-1)))⟩]) .ret) .skip)) (.seq (.seq (.reg [⟨some 17, none, .mv (.t 0)⟩, ⟨some 18, none, .mv (.t 1)⟩, ⟨some 19, none, .bin .gtr (.t 17) (.t 18)⟩]) (.cond (.t 19) (.seq (.reg [⟨some 4, none, .mv (.c (.int .i64 1))⟩]) .ret) .skip)) (.seq (.reg [⟨some 4, none, .mv (.c (.int .i64 0))⟩]) .ret)))))))
theorem code_cmp_Compare_int : HasCode Try.prog fn_cmp_Compare_int mc_cmp_Compare_int [.t 4] 20 := ⟨mixed, Try.f33, _, Try.func33, rfl, by kernel_rfl, by kernel_rfl, rfl, by kernel_rfl, rfl⟩

def mc_impl_commonFactor : MC :=
  .seq (.reg [⟨some 4, none, .mv (.c (.int .i64 0))⟩]) (.seq (.block 0 (.loop (.seq (.seq (.reg [⟨some 5, none, .mv (.t 1)⟩, ⟨some 6, none, .bin .neq (.t 5) (.c (.int .i64 0))⟩]) (.cond (.t 6) .skip (.exit 0))) (.block 1 (.drq [⟨some 7, none, .mv (.t 1)⟩, ⟨some 8, none, .mv (.t 0)⟩, ⟨some 9, none, .mv (.t 1)⟩, ⟨some 10, none, .bin .rem (.t 8) (.t 9)⟩, ⟨some 0, none, .mv (.t 7)⟩, ⟨some 1, none, .mv (.t 10)⟩]))))) (.seq (.reg [⟨some 11, none, .mv (.t 0)⟩, ⟨some 12, none, .call fn_impl_apart [.t 11, .c (.int .i64 0)]⟩, ⟨some 4, none, .mv (.t 12)⟩]) .ret))
theorem code_impl_commonFactor : HasCode Try.prog fn_impl_commonFactor mc_impl_commonFactor [.t 4] 13 := ⟨mixed, Try.f34, _, Try.func34, rfl, by kernel_rfl, by kernel_rfl, rfl, by kernel_rfl, rfl⟩

def mc_slices_pdqsortOrdered_int : MC :=
  .seq (.reg [⟨some 8, none, .mv (.c (.bool true))⟩]) (.seq (.reg [⟨some 9, none, .mv (.c (.bool true))⟩]) (.block 0 (.loop (.block 1 (.seq (.reg [⟨some 19, none, .mv (.t 2)⟩, ⟨some 20, none, .mv (.t 1)⟩, ⟨some 21, none, .bin .sub (.t 19) (.t 20)⟩, ⟨some 10, none, .mv (.t 21)⟩]) (.seq (.seq (.reg [⟨some 22, none, .mv (.t 10)⟩, ⟨some 23, none, .bin .leq (.t 22) (.c (.int .i64 12))⟩]) (.cond (.t 23) (.seq (.reg [⟨some 24, none, .mv (.t 0)⟩, ⟨some 25, none, .mv (.t 1)⟩, ⟨some 26, none, .mv (.t 2)⟩, ⟨some 27, none, .call fn_slices_insertionSortOrdered_int [.t 24, .t 25, .t 26]⟩]) .ret) .skip)) (.seq (.seq (.reg [⟨some 28, none, .mv (.t 3)⟩, ⟨some 29, none, .bin .eql (.t 28) (.c (.int .i64 0))⟩]) (.cond (.t 29) (.seq (.reg [⟨some 30, none, .mv (.t 0)⟩, ⟨some 31, none, .mv (.t 1)⟩, ⟨some 32, none, .mv (.t 2)⟩, ⟨some 33, none, .call fn_slices_heapSortOrdered_int [.t 30, .t 31, .t 32]⟩]) .ret) .skip)) (.seq (.seq (.reg [⟨some 34, none, .mv (.t 8)⟩, ⟨some 35, none, .un .not (.t 34)⟩]) (.cond (.t 35) (.seq (.reg [⟨some 36, none, .mv (.t 0)⟩, ⟨some 37, none, .mv (.t 1)⟩, ⟨some 38, none, .mv (.t 2)⟩, ⟨some 39, none, .call fn_slices_breakPatternsOrdered_int [.t 36, .t 37, .t 38]⟩]) (.reg [⟨some 40, none, .mv (.t 3)⟩, ⟨some 41, none, .bin .sub (.t 40) (.c (.int .i64 1))⟩, ⟨some 3, none, .mv (.t 41)⟩])) .skip)) (.seq (.reg [⟨some 43, none, .mv (.t 0)⟩, ⟨some 44, none, .mv (.t 1)⟩, ⟨some 45, none, .mv (.t 2)⟩, ⟨some 46, none, .call fn_slices_choosePivotOrdered_int [.t 43, .t 44, .t 45]⟩, ⟨some 42, none, .mv (.t 46)⟩, ⟨some 47, none, .ext (.t 42) 0⟩, ⟨some 48, none, .ext (.t 42) 1⟩, ⟨some 11, none, .mv (.t 47)⟩, ⟨some 12, none, .mv (.t 48)⟩]) (.seq (.seq (.reg [⟨some 49, none, .mv (.t 12)⟩, ⟨some 50, none, .bin .eql (.t 49) (.c (.int .i64 2))⟩]) (.cond (.t 50) (.seq (.reg [⟨some 51, none, .mv (.t 0)⟩, ⟨some 52, none, .mv (.t 1)⟩, ⟨some 53, none, .mv (.t 2)⟩, ⟨some 54, none, .call fn_slices_reverseRangeOrdered_int [.t 51, .t 52, .t 53]⟩]) (.seq (.reg [⟨some 55, none, .mv (.t 2)⟩, ⟨some 56, none, .bin .sub (.t 55) (.c (.int .i64 1))⟩, ⟨some 57, none, .mv (.t 11)⟩, ⟨some 58, none, .mv (.t 1)⟩, ⟨some 59, none, .bin .sub (.t 57) (.t 58)⟩, ⟨some 60, none, .bin .sub (.t 56) (.t 59)⟩, ⟨some 11, none, .mv (.t 60)⟩]) (.reg [⟨some 12, none, .mv (.c (.int .i64 1))⟩]))) .skip)) (.seq (.seq (.reg [⟨some 61, none, .mv (.t 8)⟩, ⟨some 62, none, .mv (.t 61)⟩, ⟨some 63, some (62, true), .mv (.t 9)⟩, ⟨some 64, none, .pick (.t 62) (.t 63) (.c (.bool false))⟩, ⟨some 65, none, .mv (.t 64)⟩, ⟨some 66, some (65, true), .mv (.t 12)⟩, ⟨some 67, some (65, true), .bin .eql (.t 66) (.c (.int .i64 1))⟩, ⟨some 68, none, .pick (.t 65) (.t 67) (.c (.bool false))⟩]) (.cond (.t 68) (.seq (.reg [⟨some 69, none, .mv (.t 0)⟩, ⟨some 70, none, .mv (.t 1)⟩, ⟨some 71, none, .mv (.t 2)⟩, ⟨some 72, none, .call fn_slices_partialInsertionSortOrdered_int [.t 69, .t 70, .t 71]⟩]) (.cond (.t 72) .ret .skip)) .skip)) (.seq (.seq (.drq [⟨some 73, none, .mv (.t 1)⟩, ⟨some 74, none, .bin .gtr (.t 73) (.c (.int .i64 0))⟩, ⟨some 75, none, .mv (.t 74)⟩, ⟨some 76, some (75, true), .mv (.t 0)⟩, ⟨some 77, some (75, true), .mv (.t 1)⟩, ⟨some 78, some (75, true), .bin .sub (.t 77) (.c (.int .i64 1))⟩, ⟨some 79, some (75, true), .ixa (.t 76) (.t 78) 1⟩, ⟨some 80, some (75, true), .ld (.t 79) 1 false⟩, ⟨some 81, some (75, true), .mv (.t 0)⟩, ⟨some 82, some (75, true), .mv (.t 11)⟩, ⟨some 83, some (75, true), .ixa (.t 81) (.t 82) 1⟩, ⟨some 84, some (75, true), .ld (.t 83) 1 false⟩, ⟨some 85, some (75, true), .call fn_cmp_Less_int [.t 80, .t 84]⟩, ⟨some 86, some (75, true), .un .not (.t 85)⟩, ⟨some 87, none, .pick (.t 75) (.t 86) (.c (.bool false))⟩]) (.cond (.t 87) (.seq (.reg [⟨some 88, none, .mv (.t 0)⟩, ⟨some 89, none, .mv (.t 1)⟩, ⟨some 90, none, .mv (.t 2)⟩, ⟨some 91, none, .mv (.t 11)⟩, ⟨some 92, none, .call fn_slices_partitionEqualOrdered_int [.t 88, .t 89, .t 90, .t 91]⟩, ⟨some 13, none, .mv (.t 92)⟩]) (.seq (.reg [⟨some 93, none, .mv (.t 13)⟩, ⟨some 1, none, .mv (.t 93)⟩]) (.exit 1))) .skip)) (.seq (.reg [⟨some 95, none, .mv (.t 0)⟩, ⟨some 96, none, .mv (.t 1)⟩, ⟨some 97, none, .mv (.t 2)⟩, ⟨some 98, none, .mv (.t 11)⟩, ⟨some 99, none, .call fn_slices_partitionOrdered_int [.t 95, .t 96, .t 97, .t 98]⟩, ⟨some 94, none, .mv (.t 99)⟩, ⟨some 100, none, .ext (.t 94) 0⟩, ⟨some 101, none, .ext (.t 94) 1⟩, ⟨some 14, none, .mv (.t 100)⟩, ⟨some 15, none, .mv (.t 101)⟩]) (.seq (.reg [⟨some 102, none, .mv (.t 15)⟩, ⟨some 9, none, .mv (.t 102)⟩]) (.seq (.reg [⟨some 103, none, .mv (.t 14)⟩, ⟨some 104, none, .mv (.t 1)⟩, ⟨some 105, none, .bin .sub (.t 103) (.t 104)⟩, ⟨some 106, none, .mv (.t 2)⟩, ⟨some 107, none, .mv (.t 14)⟩, ⟨some 108, none, .bin .sub (.t 106) (.t 107)⟩, ⟨some 16, none, .mv (.t 105)⟩, ⟨some 17, none, .mv (.t 108)⟩]) (.seq (.reg [⟨some 109, none, .mv (.t 10)⟩, ⟨some 110, none, .bin .quo (.t 109) (.c (.int .i64 8))⟩, ⟨some 18, none, .mv (.t 110)⟩]) (.seq (.reg [⟨some 111, none, .mv (.t 16)⟩, ⟨some 112, none, .mv (.t 17)⟩, ⟨some 113, none, .bin .lss (.t 111) (.t 112)⟩]) (.cond (.t 113) (.seq (.reg [⟨some 114, none, .mv (.t 16)⟩, ⟨some 115, none, .mv (.t 18)⟩, ⟨some 116, none, .bin .geq (.t 114) (.t 115)⟩, ⟨some 8, none, .mv (.t 116)⟩]) (.seq (.reg [⟨some 117, none, .mv (.t 0)⟩, ⟨some 118, none, .mv (.t 1)⟩, ⟨some 119, none, .mv (.t 14)⟩, ⟨some 120, none, .mv (.t 3)⟩, ⟨some 121, none, .call fn_slices_pdqsortOrdered_int [.t 117, .t 118, .t 119, .t 120]⟩]) (.reg [⟨some 122, none, .mv (.t 14)⟩, ⟨some 123, none, .bin .add (.t 122) (.c (.int .i64 1))⟩, ⟨some 1, none, .mv (.t 123)⟩]))) (.seq (.reg [⟨some 124, none, .mv (.t 17)⟩, ⟨some 125, none, .mv (.t 18)⟩, ⟨some 126, none, .bin .geq (.t 124) (.t 125)⟩, ⟨some 8, none, .mv (.t 126)⟩]) (.seq (.reg [⟨some 127, none, .mv (.t 0)⟩, ⟨some 128, none, .mv (.t 14)⟩, ⟨some 129, none, .bin .add (.t 128) (.c (.int .i64 1))⟩, ⟨some 130, none, .mv (.t 2)⟩, ⟨some 131, none, .mv (.t 3)⟩, ⟨some 132, none, .call fn_slices_pdqsortOrdered_int [.t 127, .t 129, .t 130, .t 131]⟩]) (.reg [⟨some 133, none, .mv (.t 14)⟩, ⟨some 2, none, .mv (.t 133)⟩])))))))))))))))))))))
theorem code_slices_pdqsortOrdered_int : HasCode Try.prog fn_slices_pdqsortOrdered_int mc_slices_pdqsortOrdered_int [] 134 := ⟨mixed, Try.f35, _, Try.func35, rfl, by kernel_rfl, by kernel_rfl, rfl, by kernel_rfl, rfl⟩

def mc_math_bits_Len : MC :=
  .seq (.reg [⟨some 2, none, .mv (.c (.int .i64 0))⟩]) (.seq (.cond (.c (.bool false)) (.seq (.reg [⟨some 3, none, .mv (.t 0)⟩, ⟨some 4, none, .conv .u32 (.t 3)⟩, ⟨some 5, none, .call fn_math_bits_Len32 [.t 4]⟩, ⟨some 2, none, .mv (.t 5)⟩]) .ret) .skip) (.seq (.reg [⟨some 6, none, .mv (.t 0)⟩, ⟨some 7, none, .call fn_math_bits_Len64 [.t 6]⟩, ⟨some 2, none, .mv (.t 7)⟩]) .ret))
theorem code_math_bits_Len : HasCode Try.prog fn_math_bits_Len mc_math_bits_Len [.t 2] 8 := ⟨mixed, Try.f36, _, Try.func36, rfl, by kernel_rfl, by kernel_rfl, rfl, by kernel_rfl, rfl⟩

def mc_cmp_isNaN_int : MC :=
  .seq (.reg [⟨some 2, none, .mv (.c (.bool false))⟩]) (.seq (.reg [⟨some 3, none, .mv (.t 0)⟩, ⟨some 4, none, .mv (.t 0)⟩, ⟨some 5, none, .bin .neq (.t 3) (.t 4)⟩, ⟨some 2, none, .mv (.t 5)⟩]) .ret)
theorem code_cmp_isNaN_int : HasCode Try.prog fn_cmp_isNaN_int mc_cmp_isNaN_int [.t 2] 6 := ⟨mixed, Try.f37, _, Try.func37, rfl, by kernel_rfl, by kernel_rfl, rfl, by kernel_rfl, rfl⟩

def mc_slices_insertionSortOrdered_int : MC :=
  .seq (.reg [⟨some 8, none, .mv (.t 1)⟩, ⟨some 9, none, .bin .add (.t 8) (.c (.int .i64 1))⟩, ⟨some 6, none, .mv (.t 9)⟩]) (.block 0 (.loop (.seq (.seq (.reg [⟨some 10, none, .mv (.t 6)⟩, ⟨some 11, none, .mv (.t 2)⟩, ⟨some 12, none, .bin .lss (.t 10) (.t 11)⟩]) (.cond (.t 12) .skip (.exit 0))) (.seq (.block 1 (.seq (.reg [⟨some 15, none, .mv (.t 6)⟩, ⟨some 7, none, .mv (.t 15)⟩]) (.block 2 (.loop (.seq (.seq (.drq [⟨some 16, none, .mv (.t 7)⟩, ⟨some 17, none, .mv (.t 1)⟩, ⟨some 18, none, .bin .gtr (.t 16) (.t 17)⟩, ⟨some 19, none, .mv (.t 18)⟩, ⟨some 20, some (19, true), .mv (.t 0)⟩, ⟨some 21, some (19, true), .mv (.t 7)⟩, ⟨some 22, some (19, true), .ixa (.t 20) (.t 21) 1⟩, ⟨some 23, some (19, true), .ld (.t 22) 1 false⟩, ⟨some 24, some (19, true), .mv (.t 0)⟩, ⟨some 25, some (19, true), .mv (.t 7)⟩, ⟨some 26, some (19, true), .bin .sub (.t 25) (.c (.int .i64 1))⟩, ⟨some 27, some (19, true), .ixa (.t 24) (.t 26) 1⟩, ⟨some 28, some (19, true), .ld (.t 27) 1 false⟩, ⟨some 29, some (19, true), .call fn_cmp_Less_int [.t 23, .t 28]⟩, ⟨some 30, none, .pick (.t 19) (.t 29) (.c (.bool false))⟩]) (.cond (.t 30) .skip (.exit 2))) (.seq (.block 3 (.drw [⟨some 33, none, .mv (.t 0)⟩, ⟨some 34, none, .mv (.t 7)⟩, ⟨some 35, none, .mv (.t 0)⟩, ⟨some 36, none, .mv (.t 7)⟩, ⟨some 37, none, .bin .sub (.t 36) (.c (.int .i64 1))⟩, ⟨some 38, none, .mv (.t 0)⟩, ⟨some 39, none, .mv (.t 7)⟩, ⟨some 40, none, .bin .sub (.t 39) (.c (.int .i64 1))⟩, ⟨some 41, none, .ixa (.t 38) (.t 40) 1⟩, ⟨some 42, none, .ld (.t 41) 1 false⟩, ⟨some 43, none, .mv (.t 0)⟩, ⟨some 44, none, .mv (.t 7)⟩, ⟨some 45, none, .ixa (.t 43) (.t 44) 1⟩, ⟨some 46, none, .ld (.t 45) 1 false⟩, ⟨some 47, none, .ixa (.t 33) (.t 34) 1⟩, ⟨none, none, .st (.t 47) (.t 42) 1⟩, ⟨some 48, none, .ixa (.t 35) (.t 37) 1⟩, ⟨none, none, .st (.t 48) (.t 46) 1⟩] [])) (.reg [⟨some 31, none, .mv (.t 7)⟩, ⟨some 32, none, .bin .sub (.t 31) (.c (.int .i64 1))⟩, ⟨some 7, none, .mv (.t 32)⟩]))))))) (.reg [⟨some 13, none, .mv (.t 6)⟩, ⟨some 14, none, .bin .add (.t 13) (.c (.int .i64 1))⟩, ⟨some 6, none, .mv (.t 14)⟩])))))
theorem code_slices_insertionSortOrdered_int : HasCode Try.prog fn_slices_insertionSortOrdered_int mc_slices_insertionSortOrdered_int [] 49 := ⟨mixed, Try.f38, _, Try.func38, rfl, by kernel_rfl, by kernel_rfl, rfl, by kernel_rfl, rfl⟩

def mc_cmp_Less_int : MC :=
  .seq (.reg [⟨some 4, none, .mv (.c (.bool false))⟩]) (.seq (.reg [⟨some 5, none, .mv (.t 0)⟩, ⟨some 6, none, .call fn_cmp_isNaN_int [.t 5]⟩, ⟨some 7, none, .mv (.t 6)⟩, ⟨some 8, some (7, true), .mv (.t 1)⟩, ⟨some 9, some (7, true), .call fn_cmp_isNaN_int [.t 8]⟩, ⟨some 10, some (7, true), .un .not (.t 9)⟩, ⟨some 11, none, .pick (.t 7) (.t 10) (.c (.bool false))⟩, ⟨some 12, none, .mv (.t 11)⟩, ⟨some 13, some (12, false), .mv (.t 0)⟩, ⟨some 14, some (12, false), .mv (.t 1)⟩, ⟨some 15, some (12, false), .bin .lss (.t 13) (.t 14)⟩, ⟨some 16, none, .pick (.t 12) (.c (.bool true)) (.t 15)⟩, ⟨some 4, none, .mv (.t 16)⟩]) .ret)
theorem code_cmp_Less_int : HasCode Try.prog fn_cmp_Less_int mc_cmp_Less_int [.t 4] 17 := ⟨mixed, Try.f44, _, Try.func44, rfl, by kernel_rfl, by kernel_rfl, rfl, by kernel_rfl, rfl⟩

def mc_math_bits_Len64 : MC :=
  .seq (.reg [⟨some 2, none, .mv (.c (.int .i64 0))⟩]) (.seq (.seq (.reg [⟨some 3, none, .mv (.t 0)⟩, ⟨some 4, none, .bin .geq (.t 3) (.c (.int .u64 4294967296))⟩]) (.cond (.t 4) (.seq (.reg [⟨some 5, none, .mv (.t 0)⟩, ⟨some 6, none, .bin .shr (.t 5) (.c (.int .u64 32))⟩, ⟨some 0, none, .mv (.t 6)⟩]) (.reg [⟨some 2, none, .mv (.c (.int .i64 32))⟩])) .skip)) (.seq (.seq (.reg [⟨some 7, none, .mv (.t 0)⟩, ⟨some 8, none, .bin .geq (.t 7) (.c (.int .u64 65536))⟩]) (.cond (.t 8) (.seq (.reg [⟨some 9, none, .mv (.t 0)⟩, ⟨some 10, none, .bin .shr (.t 9) (.c (.int .u64 16))⟩, ⟨some 0, none, .mv (.t 10)⟩]) (.reg [⟨some 11, none, .mv (.t 2)⟩, ⟨some 12, none, .bin .add (.t 11) (.c (.int .i64 16))⟩, ⟨some 2, none, .mv (.t 12)⟩])) .skip)) (.seq (.seq (.reg [⟨some 13, none, .mv (.t 0)⟩, ⟨some 14, none, .bin .geq (.t 13) (.c (.int .u64 256))⟩]) (.cond (.t 14) (.seq (.reg [⟨some 15, none, .mv (.t 0)⟩, ⟨some 16, none, .bin .shr (.t 15) (.c (.int .u64 8))⟩, ⟨some 0, none, .mv (.t 16)⟩]) (.reg [⟨some 17, none, .mv (.t 2)⟩, ⟨some 18, none, .bin .add (.t 17) (.c (.int .i64 8))⟩, ⟨some 2, none, .mv (.t 18)⟩])) .skip)) (.seq (.reg [⟨some 19, none, .mv (.t 2)⟩, ⟨some 20, none, .mv (.t 0)⟩, ⟨some 21, none, .conv .u8 (.t 20)⟩, ⟨some 22, none, .chr (.c (.str [0, 1, 2, 2, 3, 3, 3, 3, 4, 4, 4, 4, 4, 4, 4, 4, 5, 5, 5, 5, 5, 5, 5, 5, 5, 5, 5, 5, 5, 5, 5, 5, 6, 6, 6, 6, 6, 6, 6, 6, 6, 6, 6, 6, 6, 6, 6, 6, 6, 6, 6, 6, 6, 6, 6, 6, 6, 6, 6, 6, 6, 6, 6, 6, 7, 7, 7, 7, 7, 7, 7, 7, 7, 7, 7, 7, 7, 7, 7, 7, 7, 7, 7, 7, 7, 7, 7, 7, 7, 7, 7, 7, 7, 7, 7, 7, 7, 7, 7, 7, 7, 7, 7, 7, 7, 7, 7, 7, 7, 7, 7, 7, 7, 7, 7, 7, 7, 7, 7, 7, 7, 7, 7, 7, 7, 7, 7, 7, 8, 8, 8, 8, 8, 8, 8, 8, 8, 8, 8, 8, 8, 8, 8, 8, 8, 8, 8, 8, 8, 8, 8, 8, 8, 8, 8, 8, 8, 8, 8, 8, 8, 8, 8, 8, 8, 8, 8, 8, 8, 8, 8, 8, 8, 8, 8, 8, 8, 8, 8, 8, 8, 8, 8, 8, 8, 8, 8, 8, 8, 8, 8, 8, 8, 8, 8, 8, 8, 8, 8, 8, 8, 8, 8, 8, 8, 8, 8, 8, 8, 8, 8, 8, 8, 8, 8, 8, 8, 8, 8, 8, 8, 8, 8, 8, 8, 8, 8, 8, 8, 8, 8, 8, 8, 8, 8, 8, 8, 8, 8, 8, 8, 8, 8, 8, 8, 8, 8, 8, 8, 8, 8, 8, 8, 8, 8, 8])) (.t 21)⟩, ⟨some 23, none, .conv .i64 (.t 22)⟩, ⟨some 24, none, .bin .add (.t 19) (.t 23)⟩, ⟨some 2, none, .mv (.t 24)⟩]) .ret))))
theorem code_math_bits_Len64 : HasCode Try.prog fn_math_bits_Len64 mc_math_bits_Len64 [.t 2] 25 := ⟨mixed, Try.f48, _, Try.func48, rfl, by kernel_rfl, by kernel_rfl, rfl, by kernel_rfl, rfl⟩

end Go.Rx.Try
