/-
  The code of each function of the program, taken up. Made by a program.
-/
import Derived.Test.YtehelgiigghieaaProg
import Derived.Test.YtehelgiigghieaaRxI
import Derived.KernelRfl
import Derived.Shelf.SlGeneric
import Derived.Shelf.SlSortCmp.NoneTotal
import Derived.Shelf.SlicesG.Cmp
import Derived.Ground.SlsfProg
import Derived.Ground.SlgcProg
namespace Go.Proofs
open Go.Shelf
def Try.sortF_ren : Go.Shelf.Ren := ⟨fun | 6 => 38 | 15 => 55 | 14 => 54 | 28 => 71 | 29 => 72 | 20 => 63 | 21 => 64 | 22 => 65 | 23 => 66 | 24 => 67 | 25 => 68 | 26 => 69 | 27 => 70 | 46 => 74 | 47 => 75 | 48 => 76 | 49 => 77 | 50 => 78 | 57 => 79 | n => n, fun | 22 => 39 | 24 => 27 | 25 => 63 | 3 => 3 | 39 => 73 | 0 => 0 | 53 => 85 | 55 => 87 | 4 => 4 | 46 => 78 | 45 => 77 | 50 => 82 | 5 => 5 | 9 => 9 | 66 => 88 | 70 => 92 | 76 => 94 | 77 => 95 | n => n, fun | n => n⟩
theorem Try.sortF : Go.Proofs.SlLaysF0.n6 Try.prog Try.sortF_ren := {
  mixed := by kernel_rfl
  f6 := ⟨Try.f38.name, by decide, Try.func38.trans (congrArg some (by kernel_rfl))⟩
  f14 := ⟨Try.f54.name, by decide, Try.func54.trans (congrArg some (by kernel_rfl))⟩
  f15 := Try.func55.trans (congrArg some (by kernel_rfl))
  f20 := ⟨Try.f63.name, by decide, Try.func63.trans (congrArg some (by kernel_rfl))⟩
  f21 := ⟨Try.f64.name, by decide, Try.func64.trans (congrArg some (by kernel_rfl))⟩
  f22 := ⟨Try.f65.name, by decide, Try.func65.trans (congrArg some (by kernel_rfl))⟩
  f23 := ⟨Try.f66.name, by decide, Try.func66.trans (congrArg some (by kernel_rfl))⟩
  f24 := ⟨Try.f67.name, by decide, Try.func67.trans (congrArg some (by kernel_rfl))⟩
  f25 := ⟨Try.f68.name, by decide, Try.func68.trans (congrArg some (by kernel_rfl))⟩
  f26 := ⟨Try.f69.name, by decide, Try.func69.trans (congrArg some (by kernel_rfl))⟩
  f27 := ⟨Try.f70.name, by decide, Try.func70.trans (congrArg some (by kernel_rfl))⟩
  f28 := Try.func71.trans (congrArg some (by kernel_rfl))
  f29 := Try.func72.trans (congrArg some (by kernel_rfl))
  f46 := ⟨Try.f74.name, by decide, Try.func74.trans (congrArg some (by kernel_rfl))⟩
  f47 := Try.func75.trans (congrArg some (by kernel_rfl))
  f48 := Try.func76.trans (congrArg some (by kernel_rfl))
  f49 := ⟨Try.f77.name, by decide, Try.func77.trans (congrArg some (by kernel_rfl))⟩
  f50 := ⟨Try.f78.name, by decide, Try.func78.trans (congrArg some (by kernel_rfl))⟩
  f57 := ⟨Try.f79.name, by decide, Try.func79.trans (congrArg some (by kernel_rfl))⟩
  t0 := Try.underlying0
  a0 := Try.isAgg0
  z0 := Try.sizeOf0
  v0 := Try.zeroValue0
  t3 := Try.underlying3
  a3 := Try.isAgg3
  z3 := Try.sizeOf3
  v3 := Try.zeroValue3
  t4 := Try.underlying4
  a4 := Try.isAgg4
  z4 := Try.sizeOf4
  v4 := Try.zeroValue4
  t5 := Try.underlying5
  a5 := Try.isAgg5
  z5 := Try.sizeOf5
  v5 := Try.zeroValue5
  t9 := Try.underlying9
  a9 := Try.isAgg9
  z9 := Try.sizeOf9
  v9 := Try.zeroValue9
  t22 := Try.underlying39
  a22 := Try.isAgg39
  z22 := Try.sizeOf39
  v22 := Try.zeroValue39
  t25 := Try.underlying63
  a25 := Try.isAgg63
  z25 := Try.sizeOf63
  v25 := Try.zeroValue63
  t39 := Try.underlying73
  a39 := Try.isAgg73
  z39 := Try.sizeOf73
  v39 := Try.zeroValue73
  t45 := Try.underlying77
  a45 := Try.isAgg77
  z45 := Try.sizeOf77
  v45 := Try.zeroValue77
  t46 := Try.underlying78
  a46 := Try.isAgg78
  z46 := Try.sizeOf78
  v46 := Try.zeroValue78
  t50 := Try.underlying82
  a50 := Try.isAgg82
  z50 := Try.sizeOf82
  v50 := Try.zeroValue82
  t53 := Try.underlying85
  a53 := Try.isAgg85
  z53 := Try.sizeOf85
  v53 := Try.zeroValue85
  t55 := Try.underlying87
  a55 := Try.isAgg87
  z55 := Try.sizeOf87
  v55 := Try.zeroValue87
  t66 := Try.underlying88
  a66 := Try.isAgg88
  z66 := Try.sizeOf88
  v66 := Try.zeroValue88
  t70 := Try.underlying92
  a70 := Try.isAgg92
  z70 := Try.sizeOf92
  v70 := Try.zeroValue92
  t76 := Try.underlying94
  a76 := Try.isAgg94
  z76 := Try.sizeOf94
  v76 := Try.zeroValue94
  t77 := Try.underlying95
  a77 := Try.isAgg95
  z77 := Try.sizeOf95
  v77 := Try.zeroValue95 }
def Try.cmpInt_ren : Go.Shelf.Ren := ⟨fun | 5 => 56 | 7 => 73 | n => n, fun | 22 => 3 | 3 => 3 | 4 => 4 | n => n, fun | n => n⟩
theorem Try.cmpInt : Go.Proofs.SlLaysC2.n5 Try.prog Try.cmpInt_ren := {
  mixed := by kernel_rfl
  f5 := ⟨Try.f56.name, by decide, Try.func56.trans (congrArg some (by kernel_rfl))⟩
  f7 := ⟨Try.f73.name, by decide, Try.func73.trans (congrArg some (by kernel_rfl))⟩
  t3 := Try.underlying3
  a3 := Try.isAgg3
  z3 := Try.sizeOf3
  v3 := Try.zeroValue3
  t4 := Try.underlying4
  a4 := Try.isAgg4
  z4 := Try.sizeOf4
  v4 := Try.zeroValue4
  t22 := Try.underlying3
  a22 := Try.isAgg3
  z22 := Try.sizeOf3
  v22 := Try.zeroValue3 }
end Go.Proofs

namespace Go.Proofs
open Go.Shelf Go.RowKit Go.Lib Go.Sort
set_option maxHeartbeats 1000000 in
theorem Try.cmpFrac (a b c d : Int) (h1 : -4611686018427387904 ≤ a * d ∧ a * d ≤ 4611686018427387904) (h2 : -4611686018427387904 ≤ c * b ∧ c * b ≤ 4611686018427387904) (W : World) : Calls Try.prog 39 #[.agg #[.int .i64 a, .int .i64 b], .agg #[.int .i64 c, .int .i64 d]] W fun e w' => e = .returned (.int .i64 (Lib.compareInt (a * d) (c * b))) ∧ ∃ q os', w' = grow (W.drewN q) os' := by
  have hcon := fun W' => AnyG.cmp_Compare_int Try.cmpInt (a * d) (c * b) W'
  change ∀ W', Calls Try.prog 56 _ _ _ at hcon
  generalize Lib.compareInt (a * d) (c * b) = r at hcon ⊢
  have w1 : IntKind.i64.wrap (a * d) = a * d := by simp [IntKind.wrap, IntKind.bits, IntKind.signed]; omega
  have w2 : IntKind.i64.wrap (c * b) = c * b := by simp [IntKind.wrap, IntKind.bits, IntKind.signed]; omega
  go_enter Try.func39, Try.ntmps39
  go_wp2_with (go_at_call 56; refine (hcon _).mono ?_; rintro e w' ⟨rfl, rfl⟩)
  go_ret
  exact ⟨rfl, 0, _, by rw [alloc_eq_grow, alloc_eq_grow, grow_grow]; rfl⟩
end Go.Proofs

namespace Go.Rx.Try
open Go.Proofs
set_option maxRecDepth 100000

abbrev sortf_ren := Go.Proofs.Try.sortF_ren
theorem sortf_lays : Go.Proofs.SlLaysF0.n6 Go.Proofs.Try.prog sortf_ren := Go.Proofs.Try.sortF
theorem sortf_agg : ∀ w : World, (Go.isAgg (sortf_ren.t 24)).run Go.Proofs.Try.prog w = .ok true w := Go.Proofs.Try.isAgg27
theorem sortf_size : ∀ w : World, (Go.sizeOf (sortf_ren.t 24)).run Go.Proofs.Try.prog w = .ok 2 w := Go.Proofs.Try.sizeOf27
theorem sortf_enters : ∀ (args : Array Value) (w : World), (callFunc 39 args).run Go.Proofs.Try.prog w = .ok (.enter 39 args) w := enters_of Go.Proofs.Try.func39 (by kernel_rfl) rfl
theorem sortf_cmp : ∀ (a b c d : Int), -4611686018427387904 ≤ a * d ∧ a * d ≤ 4611686018427387904 → -4611686018427387904 ≤ c * b ∧ c * b ≤ 4611686018427387904 → ∀ (W : World), Calls Go.Proofs.Try.prog 39 #[.agg #[.int .i64 a, .int .i64 b], .agg #[.int .i64 c, .int .i64 d]] W fun e w' => e = .returned (.int .i64 (Go.Lib.compareInt (a * d) (c * b))) ∧ ∃ q os', w' = Go.Sort.grow (W.drewN q) os' := Go.Proofs.Try.cmpFrac

abbrev fn_laws_FnStripByPairs : FuncId := 3
abbrev fn_laws_FnExactStripByPairs : FuncId := 4
abbrev fn_spec_DrawStripByPairs : FuncId := 5
abbrev fn_impl_StripByPairs : FuncId := 6
abbrev fn_spec_StripByPairs : FuncId := 7
abbrev fn_impl_StripByThrees : FuncId := 8
abbrev fn_laws_lessOf : FuncId := 9
abbrev fn_laws_fracOf : FuncId := 10
abbrev fn_laws_greatest : FuncId := 11
abbrev fn_laws_negated : FuncId := 12
abbrev fn_laws_toIntS : FuncId := 13
abbrev fn_laws_eqFrac : FuncId := 14
abbrev fn_laws_eqIntS : FuncId := 15
abbrev fn_spec_someCloud : FuncId := 16
abbrev fn_spec_newReader : FuncId := 17
abbrev fn_impl_SlopesOf : FuncId := 18
abbrev fn_impl_stripOf : FuncId := 19
abbrev fn_impl_pointsOf : FuncId := 20
abbrev fn_impl_least_impl_Frac : FuncId := 21
abbrev fn_impl_Frac_over : FuncId := 22
abbrev fn_spec_validCloud : FuncId := 23
abbrev fn_spec_slopes : FuncId := 24
abbrev fn_spec_breadth : FuncId := 25
abbrev fn_spec_less : FuncId := 26
abbrev fn_impl_ValidCloud : FuncId := 27
abbrev fn_impl_sideBySide : FuncId := 28
abbrev fn_impl_without : FuncId := 29
abbrev fn_impl_through : FuncId := 30
abbrev fn_impl_line_above : FuncId := 31
abbrev fn_impl_Frac_size : FuncId := 32
abbrev fn_impl_greatest_impl_Frac : FuncId := 33
abbrev fn_impl_whole : FuncId := 34
abbrev fn_laws_divisor : FuncId := 35
abbrev fn_spec_reader_pick : FuncId := 36
abbrev fn_spec_reader_one : FuncId := 37
abbrev fn_slices_SortFunc_impl_Frac_impl_Frac : FuncId := 38
abbrev fn_impl_Frac_compare : FuncId := 39
abbrev fn_impl_Frac_minus : FuncId := 40
abbrev fn_impl_lowest : FuncId := 41
abbrev fn_spec_validPoints : FuncId := 42
abbrev fn_spec_wide : FuncId := 43
abbrev fn_spec_frac : FuncId := 44
abbrev fn_spec_over : FuncId := 45
abbrev fn_spec_times : FuncId := 46
abbrev fn_spec_minus : FuncId := 47
abbrev fn_impl_validPoints : FuncId := 48
abbrev fn_slices_Min_ints : FuncId := 49
abbrev fn_slices_Max_ints : FuncId := 50
abbrev fn_impl_sideBySide_1 : FuncId := 51
abbrev fn_impl_Frac_times : FuncId := 52
abbrev fn_impl_apart : FuncId := 53
abbrev fn_slices_pdqsortCmpFunc_impl_Frac : FuncId := 54
abbrev fn_math_bits_Len : FuncId := 55
abbrev fn_cmp_Compare_int : FuncId := 56
abbrev fn_impl_Frac_plus : FuncId := 57
abbrev fn_impl_commonFactor : FuncId := 58
abbrev fn_spec_inRange : FuncId := 59
abbrev fn_spec_gcd : FuncId := 60
abbrev fn_spec_plus : FuncId := 61
abbrev fn_impl_validPlace : FuncId := 62
abbrev fn_slices_insertionSortCmpFunc_impl_Frac : FuncId := 63
abbrev fn_slices_heapSortCmpFunc_impl_Frac : FuncId := 64
abbrev fn_slices_breakPatternsCmpFunc_impl_Frac : FuncId := 65
abbrev fn_slices_choosePivotCmpFunc_impl_Frac : FuncId := 66
abbrev fn_slices_reverseRangeCmpFunc_impl_Frac : FuncId := 67
abbrev fn_slices_partialInsertionSortCmpFunc_impl_Frac : FuncId := 68
abbrev fn_slices_partitionEqualCmpFunc_impl_Frac : FuncId := 69
abbrev fn_slices_partitionCmpFunc_impl_Frac : FuncId := 70
abbrev fn_math_bits_Len32 : FuncId := 71
abbrev fn_math_bits_Len64 : FuncId := 72
abbrev fn_cmp_isNaN_int : FuncId := 73
abbrev fn_slices_siftDownCmpFunc_impl_Frac : FuncId := 74
abbrev fn_slices_nextPowerOfTwo : FuncId := 75
abbrev fn_slices_xorshift_Next : FuncId := 76
abbrev fn_slices_medianAdjacentCmpFunc_impl_Frac : FuncId := 77
abbrev fn_slices_medianCmpFunc_impl_Frac : FuncId := 78
abbrev fn_slices_order2CmpFunc_impl_Frac : FuncId := 79
abbrev fn_runtime_boundsError_Error : FuncId := 80
abbrev fn_runtime_boundsError_RuntimeError : FuncId := 81
abbrev fn_runtime_errorString_Error : FuncId := 82
abbrev fn_runtime_errorString_RuntimeError : FuncId := 83
abbrev fn_runtime_plainError_Error : FuncId := 84
abbrev fn_runtime_plainError_RuntimeError : FuncId := 85
abbrev fn_runtime_errorAddressString_Error : FuncId := 86
abbrev fn_runtime_errorAddressString_RuntimeError : FuncId := 87
abbrev fn_runtime_TypeAssertionError_Error : FuncId := 88
abbrev fn_runtime_TypeAssertionError_RuntimeError : FuncId := 89
abbrev fn_runtime_PanicNilError_Error : FuncId := 90
abbrev fn_runtime_PanicNilError_RuntimeError : FuncId := 91
abbrev fn_internal_abi_Type_Align : FuncId := 92
abbrev fn_internal_runtime_maps_unhashableTypeError_Error : FuncId := 93
abbrev fn_internal_runtime_maps_unhashableTypeError_RuntimeError : FuncId := 94
abbrev fn_internal_abi_Kind_String : FuncId := 95
abbrev ty_abi_BoundsErrorCode : TypeId := 6
abbrev ty_maps_unhashableTypeError : TypeId := 19
abbrev ty_impl_Frac : TypeId := 27
abbrev ty_impl_point : TypeId := 48
abbrev ty_impl_line : TypeId := 54
abbrev ty_spec_reader : TypeId := 61
abbrev ty_abi_TFlag : TypeId := 104
abbrev ty_abi_Kind : TypeId := 105
abbrev ty_abi_NameOff : TypeId := 108
abbrev ty_abi_TypeOff : TypeId := 109
abbrev ty_abi_Type : TypeId := 111
theorem mixed : Try.prog.follows .mixedOrders = true := by kernel_rfl

def mc_laws_FnStripByPairs : MC :=
  .seq (.reg [⟨some 2, none, .mv (.c (.bool false))⟩]) (.seq (.seq (.reg [⟨some 11, none, .mv (.t 0)⟩, ⟨some 12, none, .len (.t 11)⟩, ⟨some 13, none, .bin .gtr (.t 12) (.c (.int .i64 1048576))⟩]) (.cond (.t 13) (.seq (.reg [⟨some 2, none, .mv (.c (.bool true))⟩]) .ret) .skip)) (.seq (.reg [⟨some 15, none, .mv (.t 0)⟩, ⟨some 16, none, .call fn_spec_DrawStripByPairs [.t 15]⟩, ⟨some 14, none, .mv (.t 16)⟩, ⟨some 17, none, .ext (.t 14) 0⟩, ⟨some 18, none, .ext (.t 14) 1⟩, ⟨some 3, none, .mv (.t 17)⟩, ⟨some 4, none, .mv (.t 18)⟩]) (.seq (.reg [⟨some 20, none, .mv (.t 3)⟩, ⟨some 21, none, .mv (.t 4)⟩, ⟨some 22, none, .call fn_impl_StripByPairs [.t 20, .t 21]⟩, ⟨some 19, none, .mv (.t 22)⟩, ⟨some 23, none, .ext (.t 19) 0⟩, ⟨some 24, none, .ext (.t 19) 1⟩, ⟨some 5, none, .new [.int .i64 0, .int .i64 0]⟩, ⟨none, none, .st (.t 5) (.t 23) 2⟩, ⟨some 6, none, .mv (.t 24)⟩]) (.seq (.reg [⟨some 26, none, .mv (.t 3)⟩, ⟨some 27, none, .mv (.t 4)⟩, ⟨some 28, none, .call fn_spec_StripByPairs [.t 26, .t 27]⟩, ⟨some 25, none, .mv (.t 28)⟩, ⟨some 29, none, .ext (.t 25) 0⟩, ⟨some 30, none, .ext (.t 25) 1⟩, ⟨some 7, none, .new [.int .i64 0, .int .i64 0]⟩, ⟨none, none, .st (.t 7) (.t 29) 2⟩, ⟨some 8, none, .mv (.t 30)⟩]) (.seq (.seq (.reg [⟨some 31, none, .ld (.t 5) 2 true⟩, ⟨some 32, none, .ld (.t 7) 2 true⟩, ⟨some 33, none, .ageq true 2 (.t 31) (.t 32)⟩, ⟨some 34, none, .mv (.t 33)⟩, ⟨some 35, some (34, false), .mv (.t 6)⟩, ⟨some 36, some (34, false), .mv (.t 8)⟩, ⟨some 37, some (34, false), .beq true (.t 35) (.t 36)⟩, ⟨some 38, none, .pick (.t 34) (.c (.bool true)) (.t 37)⟩, ⟨some 39, none, .mv (.t 38)⟩, ⟨some 40, some (39, false), .mv (.t 6)⟩, ⟨some 41, some (39, false), .un .not (.t 40)⟩, ⟨some 42, none, .pick (.t 39) (.c (.bool true)) (.t 41)⟩]) (.cond (.t 42) (.seq (.reg [⟨some 43, none, .ld (.t 5) 2 true⟩, ⟨some 44, none, .ld (.t 7) 2 true⟩, ⟨some 45, none, .ageq false 2 (.t 43) (.t 44)⟩, ⟨some 46, none, .mv (.t 45)⟩, ⟨some 47, some (46, true), .mv (.t 6)⟩, ⟨some 48, some (46, true), .mv (.t 8)⟩, ⟨some 49, some (46, true), .beq false (.t 47) (.t 48)⟩, ⟨some 50, none, .pick (.t 46) (.t 49) (.c (.bool false))⟩, ⟨some 2, none, .mv (.t 50)⟩]) .ret) .skip)) (.seq (.reg [⟨some 52, none, .mv (.t 3)⟩, ⟨some 53, none, .mv (.t 4)⟩, ⟨some 54, none, .call fn_impl_StripByThrees [.t 52, .t 53]⟩, ⟨some 51, none, .mv (.t 54)⟩, ⟨some 55, none, .ext (.t 51) 0⟩, ⟨some 56, none, .ext (.t 51) 1⟩, ⟨some 9, none, .new [.int .i64 0, .int .i64 0]⟩, ⟨none, none, .st (.t 9) (.t 55) 2⟩, ⟨some 10, none, .mv (.t 56)⟩]) (.seq (.dra [[⟨some 57, none, .mv (.t 10)⟩, ⟨some 58, none, .mv (.t 57)⟩, ⟨some 59, some (58, true), .ld (.t 9) 2 true⟩, ⟨some 60, some (58, true), .ld (.t 5) 2 true⟩, ⟨some 61, some (58, true), .ageq false 2 (.t 59) (.t 60)⟩, ⟨some 62, none, .pick (.t 58) (.t 61) (.c (.bool false))⟩, ⟨some 63, none, .mv (.t 62)⟩, ⟨some 64, some (63, true), .mv (.t 4)⟩, ⟨some 66, some (63, true), .mv (.t 4)⟩, ⟨some 65, some (63, true), .call fn_laws_greatest [.t 64]⟩, ⟨some 67, some (63, true), .call fn_laws_negated [.t 66]⟩, ⟨some 68, some (63, true), .call fn_laws_greatest [.t 67]⟩, ⟨some 69, some (63, true), .bin .add (.t 65) (.t 68)⟩, ⟨some 70, some (63, true), .call fn_laws_fracOf [.t 69, .c (.int .i64 2)]⟩, ⟨some 71, some (63, true), .ld (.t 5) 2 true⟩, ⟨some 72, some (63, true), .call fn_laws_lessOf [.t 70, .t 71]⟩, ⟨some 73, some (63, true), .un .not (.t 72)⟩, ⟨some 74, none, .pick (.t 63) (.t 73) (.c (.bool false))⟩, ⟨some 2, none, .mv (.t 74)⟩], [⟨some 57, none, .mv (.t 10)⟩, ⟨some 58, none, .mv (.t 57)⟩, ⟨some 59, some (58, true), .ld (.t 9) 2 true⟩, ⟨some 60, some (58, true), .ld (.t 5) 2 true⟩, ⟨some 61, some (58, true), .ageq false 2 (.t 59) (.t 60)⟩, ⟨some 62, none, .pick (.t 58) (.t 61) (.c (.bool false))⟩, ⟨some 63, none, .mv (.t 62)⟩, ⟨some 64, some (63, true), .mv (.t 4)⟩, ⟨some 66, some (63, true), .mv (.t 4)⟩, ⟨some 65, some (63, true), .call fn_laws_greatest [.t 64]⟩, ⟨some 67, some (63, true), .call fn_laws_negated [.t 66]⟩, ⟨some 68, some (63, true), .call fn_laws_greatest [.t 67]⟩, ⟨some 69, some (63, true), .bin .add (.t 65) (.t 68)⟩, ⟨some 71, some (63, true), .ld (.t 5) 2 true⟩, ⟨some 70, some (63, true), .call fn_laws_fracOf [.t 69, .c (.int .i64 2)]⟩, ⟨some 72, some (63, true), .call fn_laws_lessOf [.t 70, .t 71]⟩, ⟨some 73, some (63, true), .un .not (.t 72)⟩, ⟨some 74, none, .pick (.t 63) (.t 73) (.c (.bool false))⟩, ⟨some 2, none, .mv (.t 74)⟩], [⟨some 57, none, .mv (.t 10)⟩, ⟨some 58, none, .mv (.t 57)⟩, ⟨some 59, some (58, true), .ld (.t 9) 2 true⟩, ⟨some 60, some (58, true), .ld (.t 5) 2 true⟩, ⟨some 61, some (58, true), .ageq false 2 (.t 59) (.t 60)⟩, ⟨some 62, none, .pick (.t 58) (.t 61) (.c (.bool false))⟩, ⟨some 63, none, .mv (.t 62)⟩, ⟨some 64, some (63, true), .mv (.t 4)⟩, ⟨some 66, some (63, true), .mv (.t 4)⟩, ⟨some 65, some (63, true), .call fn_laws_greatest [.t 64]⟩, ⟨some 67, some (63, true), .call fn_laws_negated [.t 66]⟩, ⟨some 71, some (63, true), .ld (.t 5) 2 true⟩, ⟨some 68, some (63, true), .call fn_laws_greatest [.t 67]⟩, ⟨some 69, some (63, true), .bin .add (.t 65) (.t 68)⟩, ⟨some 70, some (63, true), .call fn_laws_fracOf [.t 69, .c (.int .i64 2)]⟩, ⟨some 72, some (63, true), .call fn_laws_lessOf [.t 70, .t 71]⟩, ⟨some 73, some (63, true), .un .not (.t 72)⟩, ⟨some 74, none, .pick (.t 63) (.t 73) (.c (.bool false))⟩, ⟨some 2, none, .mv (.t 74)⟩], [⟨some 57, none, .mv (.t 10)⟩, ⟨some 58, none, .mv (.t 57)⟩, ⟨some 59, some (58, true), .ld (.t 9) 2 true⟩, ⟨some 60, some (58, true), .ld (.t 5) 2 true⟩, ⟨some 61, some (58, true), .ageq false 2 (.t 59) (.t 60)⟩, ⟨some 62, none, .pick (.t 58) (.t 61) (.c (.bool false))⟩, ⟨some 63, none, .mv (.t 62)⟩, ⟨some 64, some (63, true), .mv (.t 4)⟩, ⟨some 66, some (63, true), .mv (.t 4)⟩, ⟨some 65, some (63, true), .call fn_laws_greatest [.t 64]⟩, ⟨some 71, some (63, true), .ld (.t 5) 2 true⟩, ⟨some 67, some (63, true), .call fn_laws_negated [.t 66]⟩, ⟨some 68, some (63, true), .call fn_laws_greatest [.t 67]⟩, ⟨some 69, some (63, true), .bin .add (.t 65) (.t 68)⟩, ⟨some 70, some (63, true), .call fn_laws_fracOf [.t 69, .c (.int .i64 2)]⟩, ⟨some 72, some (63, true), .call fn_laws_lessOf [.t 70, .t 71]⟩, ⟨some 73, some (63, true), .un .not (.t 72)⟩, ⟨some 74, none, .pick (.t 63) (.t 73) (.c (.bool false))⟩, ⟨some 2, none, .mv (.t 74)⟩], [⟨some 57, none, .mv (.t 10)⟩, ⟨some 58, none, .mv (.t 57)⟩, ⟨some 59, some (58, true), .ld (.t 9) 2 true⟩, ⟨some 60, some (58, true), .ld (.t 5) 2 true⟩, ⟨some 61, some (58, true), .ageq false 2 (.t 59) (.t 60)⟩, ⟨some 62, none, .pick (.t 58) (.t 61) (.c (.bool false))⟩, ⟨some 63, none, .mv (.t 62)⟩, ⟨some 64, some (63, true), .mv (.t 4)⟩, ⟨some 66, some (63, true), .mv (.t 4)⟩, ⟨some 71, some (63, true), .ld (.t 5) 2 true⟩, ⟨some 65, some (63, true), .call fn_laws_greatest [.t 64]⟩, ⟨some 67, some (63, true), .call fn_laws_negated [.t 66]⟩, ⟨some 68, some (63, true), .call fn_laws_greatest [.t 67]⟩, ⟨some 69, some (63, true), .bin .add (.t 65) (.t 68)⟩, ⟨some 70, some (63, true), .call fn_laws_fracOf [.t 69, .c (.int .i64 2)]⟩, ⟨some 72, some (63, true), .call fn_laws_lessOf [.t 70, .t 71]⟩, ⟨some 73, some (63, true), .un .not (.t 72)⟩, ⟨some 74, none, .pick (.t 63) (.t 73) (.c (.bool false))⟩, ⟨some 2, none, .mv (.t 74)⟩], [⟨some 57, none, .mv (.t 10)⟩, ⟨some 58, none, .mv (.t 57)⟩, ⟨some 60, some (58, true), .ld (.t 5) 2 true⟩, ⟨some 59, some (58, true), .ld (.t 9) 2 true⟩, ⟨some 61, some (58, true), .ageq false 2 (.t 59) (.t 60)⟩, ⟨some 62, none, .pick (.t 58) (.t 61) (.c (.bool false))⟩, ⟨some 63, none, .mv (.t 62)⟩, ⟨some 64, some (63, true), .mv (.t 4)⟩, ⟨some 66, some (63, true), .mv (.t 4)⟩, ⟨some 65, some (63, true), .call fn_laws_greatest [.t 64]⟩, ⟨some 67, some (63, true), .call fn_laws_negated [.t 66]⟩, ⟨some 68, some (63, true), .call fn_laws_greatest [.t 67]⟩, ⟨some 69, some (63, true), .bin .add (.t 65) (.t 68)⟩, ⟨some 70, some (63, true), .call fn_laws_fracOf [.t 69, .c (.int .i64 2)]⟩, ⟨some 71, some (63, true), .ld (.t 5) 2 true⟩, ⟨some 72, some (63, true), .call fn_laws_lessOf [.t 70, .t 71]⟩, ⟨some 73, some (63, true), .un .not (.t 72)⟩, ⟨some 74, none, .pick (.t 63) (.t 73) (.c (.bool false))⟩, ⟨some 2, none, .mv (.t 74)⟩], [⟨some 57, none, .mv (.t 10)⟩, ⟨some 58, none, .mv (.t 57)⟩, ⟨some 60, some (58, true), .ld (.t 5) 2 true⟩, ⟨some 59, some (58, true), .ld (.t 9) 2 true⟩, ⟨some 61, some (58, true), .ageq false 2 (.t 59) (.t 60)⟩, ⟨some 62, none, .pick (.t 58) (.t 61) (.c (.bool false))⟩, ⟨some 63, none, .mv (.t 62)⟩, ⟨some 64, some (63, true), .mv (.t 4)⟩, ⟨some 66, some (63, true), .mv (.t 4)⟩, ⟨some 65, some (63, true), .call fn_laws_greatest [.t 64]⟩, ⟨some 67, some (63, true), .call fn_laws_negated [.t 66]⟩, ⟨some 68, some (63, true), .call fn_laws_greatest [.t 67]⟩, ⟨some 69, some (63, true), .bin .add (.t 65) (.t 68)⟩, ⟨some 71, some (63, true), .ld (.t 5) 2 true⟩, ⟨some 70, some (63, true), .call fn_laws_fracOf [.t 69, .c (.int .i64 2)]⟩, ⟨some 72, some (63, true), .call fn_laws_lessOf [.t 70, .t 71]⟩, ⟨some 73, some (63, true), .un .not (.t 72)⟩, ⟨some 74, none, .pick (.t 63) (.t 73) (.c (.bool false))⟩, ⟨some 2, none, .mv (.t 74)⟩], [⟨some 57, none, .mv (.t 10)⟩, ⟨some 58, none, .mv (.t 57)⟩, ⟨some 60, some (58, true), .ld (.t 5) 2 true⟩, ⟨some 59, some (58, true), .ld (.t 9) 2 true⟩, ⟨some 61, some (58, true), .ageq false 2 (.t 59) (.t 60)⟩, ⟨some 62, none, .pick (.t 58) (.t 61) (.c (.bool false))⟩, ⟨some 63, none, .mv (.t 62)⟩, ⟨some 64, some (63, true), .mv (.t 4)⟩, ⟨some 66, some (63, true), .mv (.t 4)⟩, ⟨some 65, some (63, true), .call fn_laws_greatest [.t 64]⟩, ⟨some 67, some (63, true), .call fn_laws_negated [.t 66]⟩, ⟨some 71, some (63, true), .ld (.t 5) 2 true⟩, ⟨some 68, some (63, true), .call fn_laws_greatest [.t 67]⟩, ⟨some 69, some (63, true), .bin .add (.t 65) (.t 68)⟩, ⟨some 70, some (63, true), .call fn_laws_fracOf [.t 69, .c (.int .i64 2)]⟩, ⟨some 72, some (63, true), .call fn_laws_lessOf [.t 70, .t 71]⟩, ⟨some 73, some (63, true), .un .not (.t 72)⟩, ⟨some 74, none, .pick (.t 63) (.t 73) (.c (.bool false))⟩, ⟨some 2, none, .mv (.t 74)⟩], [⟨some 57, none, .mv (.t 10)⟩, ⟨some 58, none, .mv (.t 57)⟩, ⟨some 60, some (58, true), .ld (.t 5) 2 true⟩, ⟨some 59, some (58, true), .ld (.t 9) 2 true⟩, ⟨some 61, some (58, true), .ageq false 2 (.t 59) (.t 60)⟩, ⟨some 62, none, .pick (.t 58) (.t 61) (.c (.bool false))⟩, ⟨some 63, none, .mv (.t 62)⟩, ⟨some 64, some (63, true), .mv (.t 4)⟩, ⟨some 66, some (63, true), .mv (.t 4)⟩, ⟨some 65, some (63, true), .call fn_laws_greatest [.t 64]⟩, ⟨some 71, some (63, true), .ld (.t 5) 2 true⟩, ⟨some 67, some (63, true), .call fn_laws_negated [.t 66]⟩, ⟨some 68, some (63, true), .call fn_laws_greatest [.t 67]⟩, ⟨some 69, some (63, true), .bin .add (.t 65) (.t 68)⟩, ⟨some 70, some (63, true), .call fn_laws_fracOf [.t 69, .c (.int .i64 2)]⟩, ⟨some 72, some (63, true), .call fn_laws_lessOf [.t 70, .t 71]⟩, ⟨some 73, some (63, true), .un .not (.t 72)⟩, ⟨some 74, none, .pick (.t 63) (.t 73) (.c (.bool false))⟩, ⟨some 2, none, .mv (.t 74)⟩], [⟨some 57, none, .mv (.t 10)⟩, ⟨some 58, none, .mv (.t 57)⟩, ⟨some 60, some (58, true), .ld (.t 5) 2 true⟩, ⟨some 59, some (58, true), .ld (.t 9) 2 true⟩, ⟨some 61, some (58, true), .ageq false 2 (.t 59) (.t 60)⟩, ⟨some 62, none, .pick (.t 58) (.t 61) (.c (.bool false))⟩, ⟨some 63, none, .mv (.t 62)⟩, ⟨some 64, some (63, true), .mv (.t 4)⟩, ⟨some 66, some (63, true), .mv (.t 4)⟩, ⟨some 71, some (63, true), .ld (.t 5) 2 true⟩, ⟨some 65, some (63, true), .call fn_laws_greatest [.t 64]⟩, ⟨some 67, some (63, true), .call fn_laws_negated [.t 66]⟩, ⟨some 68, some (63, true), .call fn_laws_greatest [.t 67]⟩, ⟨some 69, some (63, true), .bin .add (.t 65) (.t 68)⟩, ⟨some 70, some (63, true), .call fn_laws_fracOf [.t 69, .c (.int .i64 2)]⟩, ⟨some 72, some (63, true), .call fn_laws_lessOf [.t 70, .t 71]⟩, ⟨some 73, some (63, true), .un .not (.t 72)⟩, ⟨some 74, none, .pick (.t 63) (.t 73) (.c (.bool false))⟩, ⟨some 2, none, .mv (.t 74)⟩]]) .ret)))))))
theorem code_laws_FnStripByPairs : HasCode Try.prog fn_laws_FnStripByPairs mc_laws_FnStripByPairs [.t 2] 75 := ⟨mixed, Try.f3, _, Try.func3, rfl, by kernel_rfl, by kernel_rfl, rfl, by kernel_rfl⟩

def mc_spec_DrawStripByPairs : MC :=
  .seq (.reg [⟨some 2, none, .mv (.c .nilSlice)⟩, ⟨some 3, none, .mv (.c .nilSlice)⟩]) (.seq (.reg [⟨some 4, none, .mv (.t 0)⟩, ⟨some 5, none, .call fn_spec_newReader [.t 4]⟩, ⟨some 6, none, .call fn_spec_someCloud [.t 5]⟩, ⟨some 7, none, .ext (.t 6) 0⟩, ⟨some 8, none, .ext (.t 6) 1⟩, ⟨some 2, none, .mv (.t 7)⟩, ⟨some 3, none, .mv (.t 8)⟩]) .ret)
theorem code_spec_DrawStripByPairs : HasCode Try.prog fn_spec_DrawStripByPairs mc_spec_DrawStripByPairs [.t 2, .t 3] 9 := ⟨mixed, Try.f5, _, Try.func5, rfl, by kernel_rfl, by kernel_rfl, rfl, by kernel_rfl⟩

def mc_impl_StripByPairs : MC :=
  .seq (.reg [⟨some 4, none, .new [.int .i64 0, .int .i64 0]⟩, ⟨some 5, none, .mv (.c (.bool false))⟩]) (.seq (.reg [⟨some 10, none, .mv (.t 0)⟩, ⟨some 11, none, .mv (.t 1)⟩, ⟨some 12, none, .call fn_impl_SlopesOf [.t 10, .t 11]⟩, ⟨some 6, none, .mv (.t 12)⟩]) (.seq (.seq (.reg [⟨some 13, none, .mv (.t 6)⟩, ⟨some 14, none, .len (.t 13)⟩, ⟨some 15, none, .bin .eql (.t 14) (.c (.int .i64 0))⟩]) (.cond (.t 15) (.seq (.reg [⟨some 16, none, .bld [.int .i64 0, .int .i64 0] []⟩, ⟨none, none, .st (.t 4) (.t 16) 2⟩, ⟨some 5, none, .mv (.c (.bool false))⟩]) .ret) .skip)) (.seq (.reg [⟨some 7, none, .mv (.c .nilSlice)⟩]) (.seq (.seq (.reg [⟨some 17, none, .mv (.t 6)⟩, ⟨some 18, none, .len (.t 17)⟩, ⟨some 19, none, .mv (.c (.int .i64 0))⟩]) (.block 0 (.loop (.seq (.reg [⟨some 20, none, .bin .lss (.t 19) (.t 18)⟩]) (.seq (.cond (.t 20) .skip (.exit 0)) (.seq (.block 1 (.seq (.reg [⟨some 21, none, .ixa (.t 17) (.t 19) 2⟩, ⟨some 22, none, .ld (.t 21) 2 true⟩, ⟨some 9, none, .new [.int .i64 0, .int .i64 0]⟩, ⟨none, none, .st (.t 9) (.t 22) 2⟩]) (.dra [[⟨some 23, none, .mv (.t 7)⟩, ⟨some 25, none, .mv (.t 0)⟩, ⟨some 26, none, .mv (.t 1)⟩, ⟨some 24, none, .ld (.t 9) 2 true⟩, ⟨some 27, none, .call fn_impl_pointsOf [.t 25, .t 26]⟩, ⟨some 28, none, .call fn_impl_stripOf [.t 24, .t 27]⟩, ⟨some 29, none, .bsl 1 2 [.int .i64 0, .int .i64 0] [(0, .t 28)]⟩, ⟨some 30, none, .app (.t 23) (.t 29) 2 16⟩, ⟨some 7, none, .mv (.t 30)⟩], [⟨some 23, none, .mv (.t 7)⟩, ⟨some 25, none, .mv (.t 0)⟩, ⟨some 26, none, .mv (.t 1)⟩, ⟨some 27, none, .call fn_impl_pointsOf [.t 25, .t 26]⟩, ⟨some 24, none, .ld (.t 9) 2 true⟩, ⟨some 28, none, .call fn_impl_stripOf [.t 24, .t 27]⟩, ⟨some 29, none, .bsl 1 2 [.int .i64 0, .int .i64 0] [(0, .t 28)]⟩, ⟨some 30, none, .app (.t 23) (.t 29) 2 16⟩, ⟨some 7, none, .mv (.t 30)⟩]]))) (.reg [⟨some 31, none, .bin .add (.t 19) (.c (.int .i64 1))⟩, ⟨some 19, none, .mv (.t 31)⟩]))))))) (.seq (.drc [⟨some 32, none, .mv (.t 7)⟩, ⟨some 33, none, .ixa (.t 32) (.c (.int .i64 0)) 2⟩, ⟨some 34, none, .ld (.t 33) 2 true⟩, ⟨some 35, none, .mv (.t 7)⟩, ⟨some 36, none, .sl (.t 35) (some (.c (.int .i64 1))) none none 2⟩, ⟨some 37, none, .call fn_impl_least_impl_Frac [.t 34, .t 36]⟩, ⟨some 38, none, .call fn_impl_Frac_over [.t 37, .c (.int .i64 2)]⟩, ⟨none, none, .st (.t 4) (.t 38) 2⟩, ⟨some 5, none, .mv (.c (.bool true))⟩] []) .ret)))))
theorem code_impl_StripByPairs : HasCode Try.prog fn_impl_StripByPairs mc_impl_StripByPairs [.c 4 2 true, .t 5] 39 := ⟨mixed, Try.f6, _, Try.func6, rfl, by kernel_rfl, by kernel_rfl, rfl, by kernel_rfl⟩

def mc_spec_StripByPairs : MC :=
  .seq (.reg [⟨some 4, none, .new [.int .i64 0, .int .i64 0]⟩, ⟨some 5, none, .mv (.c (.bool false))⟩]) (.seq (.seq (.reg [⟨some 10, none, .mv (.t 0)⟩, ⟨some 11, none, .mv (.t 1)⟩, ⟨some 12, none, .call fn_spec_validCloud [.t 10, .t 11]⟩, ⟨some 13, none, .un .not (.t 12)⟩]) (.cond (.t 13) (.seq (.reg [⟨some 14, none, .bld [.int .i64 0, .int .i64 0] []⟩, ⟨none, none, .st (.t 4) (.t 14) 2⟩, ⟨some 5, none, .mv (.c (.bool false))⟩]) .ret) .skip)) (.seq (.reg [⟨some 15, none, .mv (.t 0)⟩, ⟨some 16, none, .mv (.t 1)⟩, ⟨some 17, none, .call fn_spec_slopes [.t 15, .t 16]⟩, ⟨some 6, none, .mv (.t 17)⟩]) (.seq (.reg [⟨some 18, none, .mv (.t 0)⟩, ⟨some 19, none, .mv (.t 1)⟩, ⟨some 20, none, .mv (.t 6)⟩, ⟨some 21, none, .ixa (.t 20) (.c (.int .i64 0)) 2⟩, ⟨some 22, none, .ld (.t 21) 2 true⟩, ⟨some 23, none, .call fn_spec_breadth [.t 18, .t 19, .t 22]⟩, ⟨some 7, none, .new [.int .i64 0, .int .i64 0]⟩, ⟨none, none, .st (.t 7) (.t 23) 2⟩]) (.seq (.seq (.reg [⟨some 8, none, .mv (.c (.int .i64 1))⟩]) (.block 0 (.loop (.seq (.seq (.reg [⟨some 24, none, .mv (.t 8)⟩, ⟨some 25, none, .mv (.t 6)⟩, ⟨some 26, none, .len (.t 25)⟩, ⟨some 27, none, .bin .lss (.t 24) (.t 26)⟩]) (.cond (.t 27) .skip (.exit 0))) (.seq (.block 1 (.seq (.reg [⟨some 30, none, .mv (.t 0)⟩, ⟨some 31, none, .mv (.t 1)⟩, ⟨some 32, none, .mv (.t 6)⟩, ⟨some 33, none, .mv (.t 8)⟩, ⟨some 34, none, .ixa (.t 32) (.t 33) 2⟩, ⟨some 35, none, .ld (.t 34) 2 true⟩, ⟨some 36, none, .call fn_spec_breadth [.t 30, .t 31, .t 35]⟩, ⟨some 9, none, .new [.int .i64 0, .int .i64 0]⟩, ⟨none, none, .st (.t 9) (.t 36) 2⟩]) (.seq (.reg [⟨some 37, none, .ld (.t 9) 2 true⟩, ⟨some 38, none, .ld (.t 7) 2 true⟩, ⟨some 39, none, .call fn_spec_less [.t 37, .t 38]⟩]) (.cond (.t 39) (.reg [⟨some 40, none, .ld (.t 9) 2 true⟩, ⟨none, none, .st (.t 7) (.t 40) 2⟩]) .skip)))) (.reg [⟨some 28, none, .mv (.t 8)⟩, ⟨some 29, none, .bin .add (.t 28) (.c (.int .i64 1))⟩, ⟨some 8, none, .mv (.t 29)⟩])))))) (.seq (.reg [⟨some 41, none, .ld (.t 7) 2 true⟩, ⟨none, none, .st (.t 4) (.t 41) 2⟩, ⟨some 5, none, .mv (.c (.bool true))⟩]) .ret)))))
theorem code_spec_StripByPairs : HasCode Try.prog fn_spec_StripByPairs mc_spec_StripByPairs [.c 4 2 true, .t 5] 42 := ⟨mixed, Try.f7, _, Try.func7, rfl, by kernel_rfl, by kernel_rfl, rfl, by kernel_rfl⟩

def mc_impl_StripByThrees : MC :=
  .seq (.reg [⟨some 4, none, .new [.int .i64 0, .int .i64 0]⟩, ⟨some 5, none, .mv (.c (.bool false))⟩]) (.seq (.seq (.reg [⟨some 12, none, .mv (.t 0)⟩, ⟨some 13, none, .mv (.t 1)⟩, ⟨some 14, none, .call fn_impl_ValidCloud [.t 12, .t 13]⟩, ⟨some 15, none, .un .not (.t 14)⟩]) (.cond (.t 15) (.seq (.reg [⟨some 16, none, .bld [.int .i64 0, .int .i64 0] []⟩, ⟨none, none, .st (.t 4) (.t 16) 2⟩, ⟨some 5, none, .mv (.c (.bool false))⟩]) .ret) .skip)) (.seq (.reg [⟨some 17, none, .mv (.t 0)⟩, ⟨some 18, none, .mv (.t 1)⟩, ⟨some 19, none, .call fn_impl_pointsOf [.t 17, .t 18]⟩, ⟨some 6, none, .mv (.t 19)⟩]) (.seq (.reg [⟨some 7, none, .new [.nilSlice]⟩]) (.seq (.seq (.reg [⟨some 20, none, .mv (.t 6)⟩, ⟨some 21, none, .len (.t 20)⟩, ⟨some 22, none, .mv (.c (.int .i64 0))⟩]) (.block 0 (.loop (.seq (.reg [⟨some 23, none, .bin .lss (.t 22) (.t 21)⟩]) (.seq (.cond (.t 23) .skip (.exit 0)) (.seq (.block 1 (.seq (.reg [⟨some 24, none, .mv (.t 22)⟩, ⟨some 25, none, .ixa (.t 20) (.t 22) 2⟩, ⟨some 26, none, .ld (.t 25) 2 true⟩, ⟨some 9, none, .new [.int .i64 0, .int .i64 0]⟩, ⟨some 8, none, .mv (.t 24)⟩, ⟨none, none, .st (.t 9) (.t 26) 2⟩]) (.seq (.reg [⟨some 27, none, .mv (.t 6)⟩, ⟨some 28, none, .mv (.t 8)⟩, ⟨some 29, none, .call fn_impl_without [.t 27, .t 28]⟩, ⟨some 30, none, .call fn_impl_sideBySide [.t 29]⟩]) (.block 2 (.rfunc (.t 30) [31, 32] (.seq (.reg [⟨some 10, none, .new [.int .i64 0, .int .i64 0]⟩, ⟨none, none, .st (.t 10) (.t 31) 2⟩]) (.reg [⟨some 11, none, .new [.int .i64 0, .int .i64 0]⟩, ⟨none, none, .st (.t 11) (.t 32) 2⟩])) (.block 3 (.seq (.reg [⟨some 33, none, .fa (.t 10) 0⟩, ⟨some 34, none, .ld (.t 33) 1 false⟩, ⟨some 35, none, .fa (.t 11) 0⟩, ⟨some 36, none, .ld (.t 35) 1 false⟩, ⟨some 37, none, .mnmx false (.t 34) [.t 36]⟩, ⟨some 38, none, .fa (.t 9) 0⟩, ⟨some 39, none, .ld (.t 38) 1 false⟩, ⟨some 40, none, .bin .leq (.t 37) (.t 39)⟩, ⟨some 41, none, .mv (.t 40)⟩, ⟨some 42, some (41, true), .fa (.t 9) 0⟩, ⟨some 43, some (41, true), .ld (.t 42) 1 false⟩, ⟨some 44, some (41, true), .fa (.t 10) 0⟩, ⟨some 45, some (41, true), .ld (.t 44) 1 false⟩, ⟨some 46, some (41, true), .fa (.t 11) 0⟩, ⟨some 47, some (41, true), .ld (.t 46) 1 false⟩, ⟨some 48, some (41, true), .mnmx true (.t 45) [.t 47]⟩, ⟨some 49, some (41, true), .bin .leq (.t 43) (.t 48)⟩, ⟨some 50, none, .pick (.t 41) (.t 49) (.c (.bool false))⟩]) (.cond (.t 50) (.seq (.drw [⟨some 51, none, .ld (.t 7) 1 false⟩, ⟨some 52, none, .ld (.t 10) 2 true⟩, ⟨some 53, none, .ld (.t 11) 2 true⟩, ⟨some 54, none, .call fn_impl_through [.t 52, .t 53]⟩, ⟨some 55, none, .ld (.t 9) 2 true⟩, ⟨some 56, none, .call fn_impl_line_above [.t 54, .t 55]⟩, ⟨some 57, none, .call fn_impl_Frac_size [.t 56]⟩, ⟨some 58, none, .bsl 1 2 [.int .i64 0, .int .i64 0] [(0, .t 57)]⟩] [(0, 7)]) (.reg [⟨some 59, none, .app (.t 51) (.t 58) 2 16⟩, ⟨none, none, .st (.t 7) (.t 59) 1⟩])) .skip)))))))) (.reg [⟨some 60, none, .bin .add (.t 22) (.c (.int .i64 1))⟩, ⟨some 22, none, .mv (.t 60)⟩]))))))) (.seq (.drc [⟨some 61, none, .call fn_impl_whole [.c (.int .i64 0)]⟩, ⟨some 62, none, .ld (.t 7) 1 false⟩, ⟨some 63, none, .call fn_impl_greatest_impl_Frac [.t 61, .t 62]⟩, ⟨some 64, none, .call fn_impl_Frac_over [.t 63, .c (.int .i64 2)]⟩, ⟨none, none, .st (.t 4) (.t 64) 2⟩, ⟨some 5, none, .mv (.c (.bool true))⟩] []) .ret)))))
theorem code_impl_StripByThrees : HasCode Try.prog fn_impl_StripByThrees mc_impl_StripByThrees [.c 4 2 true, .t 5] 65 := ⟨mixed, Try.f8, _, Try.func8, rfl, by kernel_rfl, by kernel_rfl, rfl, by kernel_rfl⟩

def mc_laws_lessOf : MC :=
  .seq (.reg [⟨some 2, none, .box (.t 0)⟩, ⟨some 3, none, .box (.t 1)⟩, ⟨some 4, none, .mv (.c (.bool false))⟩]) (.seq (.reg [⟨some 5, none, .fa (.t 2) 0⟩, ⟨some 6, none, .ld (.t 5) 1 false⟩, ⟨some 7, none, .fa (.t 3) 1⟩, ⟨some 8, none, .ld (.t 7) 1 false⟩, ⟨some 9, none, .bin .mul (.t 6) (.t 8)⟩, ⟨some 10, none, .fa (.t 3) 0⟩, ⟨some 11, none, .ld (.t 10) 1 false⟩, ⟨some 12, none, .fa (.t 2) 1⟩, ⟨some 13, none, .ld (.t 12) 1 false⟩, ⟨some 14, none, .bin .mul (.t 11) (.t 13)⟩, ⟨some 15, none, .bin .lss (.t 9) (.t 14)⟩, ⟨some 4, none, .mv (.t 15)⟩]) .ret)
theorem code_laws_lessOf : HasCode Try.prog fn_laws_lessOf mc_laws_lessOf [.t 4] 16 := ⟨mixed, Try.f9, _, Try.func9, rfl, by kernel_rfl, by kernel_rfl, rfl, by kernel_rfl⟩

def mc_laws_fracOf : MC :=
  .seq (.reg [⟨some 4, none, .new [.int .i64 0, .int .i64 0]⟩]) (.seq (.seq (.reg [⟨some 6, none, .mv (.t 1)⟩, ⟨some 7, none, .bin .lss (.t 6) (.c (.int .i64 0))⟩]) (.cond (.t 7) (.seq (.reg [⟨some 8, none, .mv (.t 0)⟩, ⟨some 9, none, .un .neg (.t 8)⟩, ⟨some 0, none, .mv (.t 9)⟩]) (.reg [⟨some 10, none, .mv (.t 1)⟩, ⟨some 11, none, .un .neg (.t 10)⟩, ⟨some 1, none, .mv (.t 11)⟩])) .skip)) (.seq (.reg [⟨some 12, none, .mv (.t 0)⟩, ⟨some 13, none, .mv (.t 1)⟩, ⟨some 14, none, .call fn_laws_divisor [.t 12, .t 13]⟩, ⟨some 5, none, .mv (.t 14)⟩]) (.seq (.drw [⟨some 15, none, .mv (.t 0)⟩, ⟨some 16, none, .mv (.t 5)⟩, ⟨some 17, none, .bin .quo (.t 15) (.t 16)⟩, ⟨some 18, none, .mv (.t 1)⟩, ⟨some 19, none, .mv (.t 5)⟩, ⟨some 20, none, .bin .quo (.t 18) (.t 19)⟩, ⟨some 21, none, .bld [.int .i64 0, .int .i64 0] [(0, 1, .t 17), (1, 1, .t 20)]⟩, ⟨none, none, .st (.t 4) (.t 21) 2⟩] []) .ret)))
theorem code_laws_fracOf : HasCode Try.prog fn_laws_fracOf mc_laws_fracOf [.c 4 2 true] 22 := ⟨mixed, Try.f10, _, Try.func10, rfl, by kernel_rfl, by kernel_rfl, rfl, by kernel_rfl⟩

def mc_laws_greatest : MC :=
  .seq (.reg [⟨some 2, none, .mv (.c (.int .i64 0))⟩]) (.seq (.reg [⟨some 5, none, .mv (.t 0)⟩, ⟨some 6, none, .ixa (.t 5) (.c (.int .i64 0)) 1⟩, ⟨some 7, none, .ld (.t 6) 1 false⟩, ⟨some 3, none, .mv (.t 7)⟩]) (.seq (.seq (.reg [⟨some 4, none, .mv (.c (.int .i64 1))⟩]) (.block 0 (.loop (.seq (.seq (.reg [⟨some 8, none, .mv (.t 4)⟩, ⟨some 9, none, .mv (.t 0)⟩, ⟨some 10, none, .len (.t 9)⟩, ⟨some 11, none, .bin .lss (.t 8) (.t 10)⟩]) (.cond (.t 11) .skip (.exit 0))) (.seq (.block 1 (.reg [⟨some 14, none, .mv (.t 3)⟩, ⟨some 15, none, .mv (.t 0)⟩, ⟨some 16, none, .mv (.t 4)⟩, ⟨some 17, none, .ixa (.t 15) (.t 16) 1⟩, ⟨some 18, none, .ld (.t 17) 1 false⟩, ⟨some 19, none, .mnmx true (.t 14) [.t 18]⟩, ⟨some 3, none, .mv (.t 19)⟩])) (.reg [⟨some 12, none, .mv (.t 4)⟩, ⟨some 13, none, .bin .add (.t 12) (.c (.int .i64 1))⟩, ⟨some 4, none, .mv (.t 13)⟩])))))) (.seq (.reg [⟨some 20, none, .mv (.t 3)⟩, ⟨some 2, none, .mv (.t 20)⟩]) .ret)))
theorem code_laws_greatest : HasCode Try.prog fn_laws_greatest mc_laws_greatest [.t 2] 21 := ⟨mixed, Try.f11, _, Try.func11, rfl, by kernel_rfl, by kernel_rfl, rfl, by kernel_rfl⟩

def mc_laws_negated : MC :=
  .seq (.reg [⟨some 2, none, .mv (.c .nilSlice)⟩]) (.seq (.reg [⟨some 5, none, .bsl 0 1 [.int .i64 0] []⟩, ⟨some 3, none, .mv (.t 5)⟩]) (.seq (.seq (.reg [⟨some 4, none, .mv (.c (.int .i64 0))⟩]) (.block 0 (.loop (.seq (.seq (.reg [⟨some 6, none, .mv (.t 4)⟩, ⟨some 7, none, .mv (.t 0)⟩, ⟨some 8, none, .len (.t 7)⟩, ⟨some 9, none, .bin .lss (.t 6) (.t 8)⟩]) (.cond (.t 9) .skip (.exit 0))) (.seq (.block 1 (.reg [⟨some 12, none, .mv (.t 3)⟩, ⟨some 13, none, .mv (.t 0)⟩, ⟨some 14, none, .mv (.t 4)⟩, ⟨some 15, none, .ixa (.t 13) (.t 14) 1⟩, ⟨some 16, none, .ld (.t 15) 1 false⟩, ⟨some 17, none, .un .neg (.t 16)⟩, ⟨some 18, none, .bsl 1 1 [.int .i64 0] [(0, .t 17)]⟩, ⟨some 19, none, .app (.t 12) (.t 18) 1 8⟩, ⟨some 3, none, .mv (.t 19)⟩])) (.reg [⟨some 10, none, .mv (.t 4)⟩, ⟨some 11, none, .bin .add (.t 10) (.c (.int .i64 1))⟩, ⟨some 4, none, .mv (.t 11)⟩])))))) (.seq (.reg [⟨some 20, none, .mv (.t 3)⟩, ⟨some 2, none, .mv (.t 20)⟩]) .ret)))
theorem code_laws_negated : HasCode Try.prog fn_laws_negated mc_laws_negated [.t 2] 21 := ⟨mixed, Try.f12, _, Try.func12, rfl, by kernel_rfl, by kernel_rfl, rfl, by kernel_rfl⟩

def mc_spec_someCloud : MC :=
  .seq (.reg [⟨some 2, none, .mv (.c .nilSlice)⟩, ⟨some 3, none, .mv (.c .nilSlice)⟩]) (.seq (.reg [⟨some 10, none, .bsl 0 1 [.int .i64 0] []⟩, ⟨some 4, none, .mv (.t 10)⟩]) (.seq (.reg [⟨some 11, none, .bsl 0 1 [.int .i64 0] []⟩, ⟨some 5, none, .mv (.t 11)⟩]) (.seq (.reg [⟨some 12, none, .mv (.t 0)⟩, ⟨some 13, none, .call fn_spec_reader_pick [.t 12, .c (.int .i64 3)]⟩, ⟨some 14, none, .bin .sub (.t 13) (.c (.int .i64 1))⟩, ⟨some 6, none, .mv (.t 14)⟩]) (.seq (.seq (.reg [⟨some 15, none, .mv (.t 0)⟩, ⟨some 16, none, .bsl 8 1 [.int .i64 0] [(0, .c (.int .i64 4)), (1, .c (.int .i64 5)), (2, .c (.int .i64 3)), (3, .c (.int .i64 6)), (4, .c (.int .i64 2)), (5, .c (.int .i64 7)), (6, .c (.int .i64 1)), (7, .c (.int .i64 0))]⟩, ⟨some 17, none, .call fn_spec_reader_one [.t 15, .t 16]⟩, ⟨some 7, none, .mv (.t 17)⟩]) (.block 0 (.loop (.seq (.seq (.reg [⟨some 18, none, .mv (.t 4)⟩, ⟨some 19, none, .len (.t 18)⟩, ⟨some 20, none, .mv (.t 7)⟩, ⟨some 21, none, .bin .lss (.t 19) (.t 20)⟩]) (.cond (.t 21) .skip (.exit 0))) (.block 1 (.seq (.reg [⟨some 22, none, .mv (.t 0)⟩, ⟨some 23, none, .call fn_spec_reader_pick [.t 22, .c (.int .i64 11)]⟩, ⟨some 24, none, .bin .sub (.t 23) (.c (.int .i64 5))⟩, ⟨some 8, none, .mv (.t 24)⟩]) (.seq (.reg [⟨some 25, none, .mv (.t 0)⟩, ⟨some 26, none, .call fn_spec_reader_pick [.t 25, .c (.int .i64 25)]⟩, ⟨some 27, none, .bin .sub (.t 26) (.c (.int .i64 12))⟩, ⟨some 9, none, .mv (.t 27)⟩]) (.seq (.seq (.reg [⟨some 28, none, .mv (.t 0)⟩, ⟨some 29, none, .call fn_spec_reader_pick [.t 28, .c (.int .i64 2)]⟩, ⟨some 30, none, .bin .eql (.t 29) (.c (.int .i64 0))⟩]) (.cond (.t 30) (.reg [⟨some 31, none, .mv (.t 6)⟩, ⟨some 32, none, .mv (.t 8)⟩, ⟨some 33, none, .bin .mul (.t 31) (.t 32)⟩, ⟨some 34, none, .mv (.t 0)⟩, ⟨some 35, none, .call fn_spec_reader_pick [.t 34, .c (.int .i64 4)]⟩, ⟨some 36, none, .bin .add (.t 33) (.t 35)⟩, ⟨some 37, none, .bin .sub (.t 36) (.c (.int .i64 1))⟩, ⟨some 9, none, .mv (.t 37)⟩]) .skip)) (.seq (.reg [⟨some 38, none, .mv (.t 4)⟩, ⟨some 39, none, .mv (.t 8)⟩, ⟨some 40, none, .bsl 1 1 [.int .i64 0] [(0, .t 39)]⟩, ⟨some 41, none, .app (.t 38) (.t 40) 1 8⟩, ⟨some 4, none, .mv (.t 41)⟩]) (.reg [⟨some 42, none, .mv (.t 5)⟩, ⟨some 43, none, .mv (.t 9)⟩, ⟨some 44, none, .bsl 1 1 [.int .i64 0] [(0, .t 43)]⟩, ⟨some 45, none, .app (.t 42) (.t 44) 1 8⟩, ⟨some 5, none, .mv (.t 45)⟩])))))))))) (.seq (.seq (.reg [⟨some 46, none, .mv (.t 0)⟩, ⟨some 47, none, .call fn_spec_reader_pick [.t 46, .c (.int .i64 30)]⟩]) (.block 2 (.seq (.reg [⟨some 49, none, .bin .eql (.t 47) (.c (.int .i64 0))⟩, ⟨some 48, none, .mv (.t 49)⟩]) (.cond (.t 48) (.seq (.reg [⟨some 50, none, .mv (.t 4)⟩, ⟨some 51, none, .mv (.t 5)⟩, ⟨some 52, none, .bsl 1 1 [.int .i64 0] [(0, .c (.int .i64 0))]⟩, ⟨some 53, none, .app (.t 51) (.t 52) 1 8⟩, ⟨some 2, none, .mv (.t 50)⟩, ⟨some 3, none, .mv (.t 53)⟩]) .ret) (.seq (.reg [⟨some 55, none, .bin .eql (.t 47) (.c (.int .i64 1))⟩, ⟨some 54, none, .mv (.t 55)⟩]) (.cond (.t 54) (.seq (.reg [⟨some 56, none, .mv (.t 4)⟩, ⟨some 57, none, .len (.t 56)⟩, ⟨some 58, none, .bin .gtr (.t 57) (.c (.int .i64 0))⟩]) (.cond (.t 58) (.reg [⟨some 59, none, .mv (.t 4)⟩, ⟨some 60, none, .mv (.t 0)⟩, ⟨some 61, none, .bsl 3 1 [.int .i64 0] [(0, .c (.int .i64 13)), (1, .c (.int .i64 (-13))), (2, .c (.int .i64 12))]⟩, ⟨some 62, none, .call fn_spec_reader_one [.t 60, .t 61]⟩, ⟨some 63, none, .ixa (.t 59) (.c (.int .i64 0)) 1⟩, ⟨none, none, .st (.t 63) (.t 62) 1⟩]) .skip)) .skip)))))) (.seq (.reg [⟨some 64, none, .mv (.t 4)⟩, ⟨some 65, none, .mv (.t 5)⟩, ⟨some 2, none, .mv (.t 64)⟩, ⟨some 3, none, .mv (.t 65)⟩]) .ret))))))
theorem code_spec_someCloud : HasCode Try.prog fn_spec_someCloud mc_spec_someCloud [.t 2, .t 3] 66 := ⟨mixed, Try.f16, _, Try.func16, rfl, by kernel_rfl, by kernel_rfl, rfl, by kernel_rfl⟩

def mc_spec_newReader : MC :=
  .seq (.reg [⟨some 2, none, .mv (.c .nilPtr)⟩]) (.seq (.seq (.reg [⟨some 3, none, .mv (.t 0)⟩, ⟨some 4, none, .len (.t 3)⟩, ⟨some 5, none, .bin .gtr (.t 4) (.c (.int .i64 2000))⟩]) (.cond (.t 5) (.reg [⟨some 6, none, .mv (.t 0)⟩, ⟨some 7, none, .sl (.t 6) none (some (.c (.int .i64 2000))) none 1⟩, ⟨some 0, none, .mv (.t 7)⟩]) .skip)) (.seq (.reg [⟨some 8, none, .mv (.t 0)⟩, ⟨some 9, none, .bld [.nilSlice, .int .i64 0] [(0, 1, .t 8)]⟩, ⟨some 10, none, .box (.t 9)⟩, ⟨some 2, none, .mv (.t 10)⟩]) .ret))
theorem code_spec_newReader : HasCode Try.prog fn_spec_newReader mc_spec_newReader [.t 2] 11 := ⟨mixed, Try.f17, _, Try.func17, rfl, by kernel_rfl, by kernel_rfl, rfl, by kernel_rfl⟩

def mc_impl_SlopesOf : MC :=
  .seq (.reg [⟨some 4, none, .mv (.c .nilSlice)⟩]) (.seq (.seq (.reg [⟨some 8, none, .mv (.t 0)⟩, ⟨some 9, none, .mv (.t 1)⟩, ⟨some 10, none, .call fn_impl_ValidCloud [.t 8, .t 9]⟩, ⟨some 11, none, .un .not (.t 10)⟩]) (.cond (.t 11) (.seq (.reg [⟨some 4, none, .mv (.c .nilSlice)⟩]) .ret) .skip)) (.seq (.reg [⟨some 5, none, .new [.nilSlice]⟩]) (.seq (.seq (.reg [⟨some 12, none, .mv (.t 0)⟩, ⟨some 13, none, .mv (.t 1)⟩, ⟨some 14, none, .call fn_impl_pointsOf [.t 12, .t 13]⟩, ⟨some 15, none, .call fn_impl_sideBySide [.t 14]⟩]) (.block 0 (.rfunc (.t 15) [16, 17] (.seq (.reg [⟨some 6, none, .new [.int .i64 0, .int .i64 0]⟩, ⟨none, none, .st (.t 6) (.t 16) 2⟩]) (.reg [⟨some 7, none, .new [.int .i64 0, .int .i64 0]⟩, ⟨none, none, .st (.t 7) (.t 17) 2⟩])) (.block 1 (.seq (.drw [⟨some 18, none, .ld (.t 5) 1 false⟩, ⟨some 19, none, .ld (.t 6) 2 true⟩, ⟨some 20, none, .ld (.t 7) 2 true⟩, ⟨some 21, none, .call fn_impl_through [.t 19, .t 20]⟩, ⟨some 22, none, .fld (.t 21) 0 2 true⟩, ⟨some 23, none, .bsl 1 2 [.int .i64 0, .int .i64 0] [(0, .t 22)]⟩] [(0, 5)]) (.reg [⟨some 24, none, .app (.t 18) (.t 23) 2 16⟩, ⟨none, none, .st (.t 5) (.t 24) 1⟩])))))) (.seq (.reg [⟨some 25, none, .ld (.t 5) 1 false⟩, ⟨some 26, none, .call fn_slices_SortFunc_impl_Frac_impl_Frac [.t 25, .c (.func fn_impl_Frac_compare [])]⟩]) (.seq (.reg [⟨some 27, none, .ld (.t 5) 1 false⟩, ⟨some 4, none, .mv (.t 27)⟩]) .ret)))))
theorem code_impl_SlopesOf : HasCode Try.prog fn_impl_SlopesOf mc_impl_SlopesOf [.t 4] 28 := ⟨mixed, Try.f18, _, Try.func18, rfl, by kernel_rfl, by kernel_rfl, rfl, by kernel_rfl⟩

def mc_impl_stripOf : MC :=
  .seq (.reg [⟨some 2, none, .box (.t 0)⟩, ⟨some 4, none, .new [.int .i64 0, .int .i64 0]⟩]) (.seq (.dra [[⟨some 9, none, .ld (.t 2) 2 true⟩, ⟨some 10, none, .call fn_impl_whole [.c (.int .i64 0)]⟩, ⟨some 11, none, .bld [.int .i64 0, .int .i64 0, .int .i64 0, .int .i64 0] [(0, 2, .t 9), (2, 2, .t 10)]⟩, ⟨some 5, none, .new [.int .i64 0, .int .i64 0, .int .i64 0, .int .i64 0]⟩, ⟨none, none, .st (.t 5) (.t 11) 4⟩], [⟨some 9, none, .ld (.t 2) 2 true⟩, ⟨some 5, none, .new [.int .i64 0, .int .i64 0, .int .i64 0, .int .i64 0]⟩, ⟨some 10, none, .call fn_impl_whole [.c (.int .i64 0)]⟩, ⟨some 11, none, .bld [.int .i64 0, .int .i64 0, .int .i64 0, .int .i64 0] [(0, 2, .t 9), (2, 2, .t 10)]⟩, ⟨none, none, .st (.t 5) (.t 11) 4⟩], [⟨some 10, none, .call fn_impl_whole [.c (.int .i64 0)]⟩, ⟨some 9, none, .ld (.t 2) 2 true⟩, ⟨some 11, none, .bld [.int .i64 0, .int .i64 0, .int .i64 0, .int .i64 0] [(0, 2, .t 9), (2, 2, .t 10)]⟩, ⟨some 5, none, .new [.int .i64 0, .int .i64 0, .int .i64 0, .int .i64 0]⟩, ⟨none, none, .st (.t 5) (.t 11) 4⟩], [⟨some 10, none, .call fn_impl_whole [.c (.int .i64 0)]⟩, ⟨some 5, none, .new [.int .i64 0, .int .i64 0, .int .i64 0, .int .i64 0]⟩, ⟨some 9, none, .ld (.t 2) 2 true⟩, ⟨some 11, none, .bld [.int .i64 0, .int .i64 0, .int .i64 0, .int .i64 0] [(0, 2, .t 9), (2, 2, .t 10)]⟩, ⟨none, none, .st (.t 5) (.t 11) 4⟩], [⟨some 5, none, .new [.int .i64 0, .int .i64 0, .int .i64 0, .int .i64 0]⟩, ⟨some 9, none, .ld (.t 2) 2 true⟩, ⟨some 10, none, .call fn_impl_whole [.c (.int .i64 0)]⟩, ⟨some 11, none, .bld [.int .i64 0, .int .i64 0, .int .i64 0, .int .i64 0] [(0, 2, .t 9), (2, 2, .t 10)]⟩, ⟨none, none, .st (.t 5) (.t 11) 4⟩], [⟨some 5, none, .new [.int .i64 0, .int .i64 0, .int .i64 0, .int .i64 0]⟩, ⟨some 10, none, .call fn_impl_whole [.c (.int .i64 0)]⟩, ⟨some 9, none, .ld (.t 2) 2 true⟩, ⟨some 11, none, .bld [.int .i64 0, .int .i64 0, .int .i64 0, .int .i64 0] [(0, 2, .t 9), (2, 2, .t 10)]⟩, ⟨none, none, .st (.t 5) (.t 11) 4⟩]]) (.seq (.reg [⟨some 6, none, .mv (.c .nilSlice)⟩]) (.seq (.seq (.reg [⟨some 12, none, .mv (.t 1)⟩, ⟨some 13, none, .len (.t 12)⟩, ⟨some 14, none, .mv (.c (.int .i64 0))⟩]) (.block 0 (.loop (.seq (.reg [⟨some 15, none, .bin .lss (.t 14) (.t 13)⟩]) (.seq (.cond (.t 15) .skip (.exit 0)) (.seq (.block 1 (.seq (.reg [⟨some 16, none, .ixa (.t 12) (.t 14) 2⟩, ⟨some 17, none, .ld (.t 16) 2 true⟩, ⟨some 8, none, .new [.int .i64 0, .int .i64 0]⟩, ⟨none, none, .st (.t 8) (.t 17) 2⟩]) (.reg [⟨some 18, none, .mv (.t 6)⟩, ⟨some 19, none, .ld (.t 5) 4 true⟩, ⟨some 20, none, .ld (.t 8) 2 true⟩, ⟨some 21, none, .call fn_impl_line_above [.t 19, .t 20]⟩, ⟨some 22, none, .bsl 1 2 [.int .i64 0, .int .i64 0] [(0, .t 21)]⟩, ⟨some 23, none, .app (.t 18) (.t 22) 2 16⟩, ⟨some 6, none, .mv (.t 23)⟩]))) (.reg [⟨some 24, none, .bin .add (.t 14) (.c (.int .i64 1))⟩, ⟨some 14, none, .mv (.t 24)⟩]))))))) (.seq (.drc [⟨some 25, none, .mv (.t 6)⟩, ⟨some 26, none, .ixa (.t 25) (.c (.int .i64 0)) 2⟩, ⟨some 27, none, .ld (.t 26) 2 true⟩, ⟨some 28, none, .mv (.t 6)⟩, ⟨some 29, none, .sl (.t 28) (some (.c (.int .i64 1))) none none 2⟩, ⟨some 30, none, .call fn_impl_greatest_impl_Frac [.t 27, .t 29]⟩, ⟨some 31, none, .mv (.t 6)⟩, ⟨some 32, none, .ixa (.t 31) (.c (.int .i64 0)) 2⟩, ⟨some 33, none, .ld (.t 32) 2 true⟩, ⟨some 34, none, .mv (.t 6)⟩, ⟨some 35, none, .sl (.t 34) (some (.c (.int .i64 1))) none none 2⟩, ⟨some 36, none, .call fn_impl_least_impl_Frac [.t 33, .t 35]⟩, ⟨some 37, none, .call fn_impl_Frac_minus [.t 30, .t 36]⟩, ⟨none, none, .st (.t 4) (.t 37) 2⟩] []) .ret))))
theorem code_impl_stripOf : HasCode Try.prog fn_impl_stripOf mc_impl_stripOf [.c 4 2 true] 38 := ⟨mixed, Try.f19, _, Try.func19, rfl, by kernel_rfl, by kernel_rfl, rfl, by kernel_rfl⟩

def mc_impl_pointsOf : MC :=
  .seq (.reg [⟨some 4, none, .mv (.c .nilSlice)⟩]) (.seq (.reg [⟨some 7, none, .mv (.t 0)⟩, ⟨some 8, none, .len (.t 7)⟩, ⟨some 9, none, .mks (.t 8) (.t 8) [.int .i64 0, .int .i64 0] 2 16⟩, ⟨some 5, none, .mv (.t 9)⟩]) (.seq (.seq (.reg [⟨some 10, none, .mv (.t 5)⟩, ⟨some 11, none, .len (.t 10)⟩, ⟨some 12, none, .mv (.c (.int .i64 0))⟩]) (.block 0 (.loop (.seq (.reg [⟨some 13, none, .bin .lss (.t 12) (.t 11)⟩]) (.seq (.cond (.t 13) .skip (.exit 0)) (.seq (.block 1 (.seq (.reg [⟨some 14, none, .mv (.t 12)⟩, ⟨some 6, none, .mv (.t 14)⟩]) (.drw [⟨some 15, none, .mv (.t 5)⟩, ⟨some 16, none, .mv (.t 6)⟩, ⟨some 17, none, .mv (.t 0)⟩, ⟨some 18, none, .mv (.t 6)⟩, ⟨some 19, none, .ixa (.t 17) (.t 18) 1⟩, ⟨some 20, none, .ld (.t 19) 1 false⟩, ⟨some 21, none, .mv (.t 1)⟩, ⟨some 22, none, .mv (.t 6)⟩, ⟨some 23, none, .ixa (.t 21) (.t 22) 1⟩, ⟨some 24, none, .ld (.t 23) 1 false⟩, ⟨some 25, none, .bld [.int .i64 0, .int .i64 0] [(0, 1, .t 20), (1, 1, .t 24)]⟩, ⟨some 26, none, .ixa (.t 15) (.t 16) 2⟩, ⟨none, none, .st (.t 26) (.t 25) 2⟩] []))) (.reg [⟨some 27, none, .bin .add (.t 12) (.c (.int .i64 1))⟩, ⟨some 12, none, .mv (.t 27)⟩]))))))) (.seq (.reg [⟨some 28, none, .mv (.t 5)⟩, ⟨some 4, none, .mv (.t 28)⟩]) .ret)))
theorem code_impl_pointsOf : HasCode Try.prog fn_impl_pointsOf mc_impl_pointsOf [.t 4] 29 := ⟨mixed, Try.f20, _, Try.func20, rfl, by kernel_rfl, by kernel_rfl, rfl, by kernel_rfl⟩

def mc_impl_least_impl_Frac : MC :=
  .seq (.reg [⟨some 2, none, .box (.t 0)⟩, ⟨some 4, none, .new [.int .i64 0, .int .i64 0]⟩]) (.seq (.seq (.reg [⟨some 7, none, .mv (.t 1)⟩, ⟨some 8, none, .len (.t 7)⟩, ⟨some 9, none, .mv (.c (.int .i64 0))⟩]) (.block 0 (.loop (.seq (.reg [⟨some 10, none, .bin .lss (.t 9) (.t 8)⟩]) (.seq (.cond (.t 10) .skip (.exit 0)) (.seq (.block 1 (.seq (.reg [⟨some 11, none, .ixa (.t 7) (.t 9) 2⟩, ⟨some 12, none, .ld (.t 11) 2 true⟩, ⟨some 6, none, .new [.int .i64 0, .int .i64 0]⟩, ⟨none, none, .st (.t 6) (.t 12) 2⟩]) (.seq (.reg [⟨some 13, none, .ld (.t 6) 2 true⟩, ⟨some 14, none, .mki 27 (.t 13)⟩, ⟨some 15, none, .ld (.t 2) 2 true⟩, ⟨some 16, none, .inv [(27, fn_impl_Frac_compare)] (.t 14) [.t 15]⟩, ⟨some 17, none, .bin .lss (.t 16) (.c (.int .i64 0))⟩]) (.cond (.t 17) (.reg [⟨some 18, none, .ld (.t 6) 2 true⟩, ⟨none, none, .st (.t 2) (.t 18) 2⟩]) .skip)))) (.reg [⟨some 19, none, .bin .add (.t 9) (.c (.int .i64 1))⟩, ⟨some 9, none, .mv (.t 19)⟩]))))))) (.seq (.reg [⟨some 20, none, .ld (.t 2) 2 true⟩, ⟨none, none, .st (.t 4) (.t 20) 2⟩]) .ret))
theorem code_impl_least_impl_Frac : HasCode Try.prog fn_impl_least_impl_Frac mc_impl_least_impl_Frac [.c 4 2 true] 21 := ⟨mixed, Try.f21, _, Try.func21, rfl, by kernel_rfl, by kernel_rfl, rfl, by kernel_rfl⟩

def mc_impl_Frac_over : MC :=
  .seq (.reg [⟨some 2, none, .box (.t 0)⟩, ⟨some 4, none, .new [.int .i64 0, .int .i64 0]⟩]) (.seq (.reg [⟨some 5, none, .fa (.t 2) 0⟩, ⟨some 6, none, .ld (.t 5) 1 false⟩, ⟨some 7, none, .fa (.t 2) 1⟩, ⟨some 8, none, .ld (.t 7) 1 false⟩, ⟨some 9, none, .mv (.t 1)⟩, ⟨some 10, none, .bin .mul (.t 8) (.t 9)⟩, ⟨some 11, none, .call fn_impl_lowest [.t 6, .t 10]⟩, ⟨none, none, .st (.t 4) (.t 11) 2⟩]) .ret)
theorem code_impl_Frac_over : HasCode Try.prog fn_impl_Frac_over mc_impl_Frac_over [.c 4 2 true] 12 := ⟨mixed, Try.f22, _, Try.func22, rfl, by kernel_rfl, by kernel_rfl, rfl, by kernel_rfl⟩

def mc_spec_validCloud : MC :=
  .seq (.reg [⟨some 4, none, .mv (.c (.bool false))⟩]) (.seq (.reg [⟨some 5, none, .mv (.t 0)⟩, ⟨some 6, none, .mv (.t 1)⟩, ⟨some 7, none, .call fn_spec_validPoints [.t 5, .t 6]⟩, ⟨some 8, none, .mv (.t 7)⟩, ⟨some 9, some (8, true), .mv (.t 0)⟩, ⟨some 10, some (8, true), .call fn_spec_wide [.t 9]⟩, ⟨some 11, none, .pick (.t 8) (.t 10) (.c (.bool false))⟩, ⟨some 4, none, .mv (.t 11)⟩]) .ret)
theorem code_spec_validCloud : HasCode Try.prog fn_spec_validCloud mc_spec_validCloud [.t 4] 12 := ⟨mixed, Try.f23, _, Try.func23, rfl, by kernel_rfl, by kernel_rfl, rfl, by kernel_rfl⟩

def mc_spec_slopes : MC :=
  .seq (.reg [⟨some 4, none, .mv (.c .nilSlice)⟩]) (.seq (.reg [⟨some 8, none, .bsl 0 2 [.int .i64 0, .int .i64 0] []⟩, ⟨some 5, none, .mv (.t 8)⟩]) (.seq (.seq (.reg [⟨some 6, none, .mv (.c (.int .i64 0))⟩]) (.block 0 (.loop (.seq (.seq (.reg [⟨some 9, none, .mv (.t 6)⟩, ⟨some 10, none, .mv (.t 0)⟩, ⟨some 11, none, .len (.t 10)⟩, ⟨some 12, none, .bin .lss (.t 9) (.t 11)⟩]) (.cond (.t 12) .skip (.exit 0))) (.seq (.block 1 (.seq (.reg [⟨some 7, none, .mv (.c (.int .i64 0))⟩]) (.block 2 (.loop (.seq (.seq (.reg [⟨some 15, none, .mv (.t 7)⟩, ⟨some 16, none, .mv (.t 6)⟩, ⟨some 17, none, .bin .lss (.t 15) (.t 16)⟩]) (.cond (.t 17) .skip (.exit 2))) (.seq (.block 3 (.seq (.drq [⟨some 20, none, .mv (.t 0)⟩, ⟨some 21, none, .mv (.t 6)⟩, ⟨some 22, none, .ixa (.t 20) (.t 21) 1⟩, ⟨some 23, none, .ld (.t 22) 1 false⟩, ⟨some 24, none, .mv (.t 0)⟩, ⟨some 25, none, .mv (.t 7)⟩, ⟨some 26, none, .ixa (.t 24) (.t 25) 1⟩, ⟨some 27, none, .ld (.t 26) 1 false⟩, ⟨some 28, none, .bin .neq (.t 23) (.t 27)⟩]) (.cond (.t 28) (.seq (.drw [⟨some 29, none, .mv (.t 5)⟩, ⟨some 30, none, .mv (.t 1)⟩, ⟨some 31, none, .mv (.t 6)⟩, ⟨some 32, none, .ixa (.t 30) (.t 31) 1⟩, ⟨some 33, none, .ld (.t 32) 1 false⟩, ⟨some 34, none, .mv (.t 1)⟩, ⟨some 35, none, .mv (.t 7)⟩, ⟨some 36, none, .ixa (.t 34) (.t 35) 1⟩, ⟨some 37, none, .ld (.t 36) 1 false⟩, ⟨some 38, none, .bin .sub (.t 33) (.t 37)⟩, ⟨some 39, none, .mv (.t 0)⟩, ⟨some 40, none, .mv (.t 6)⟩, ⟨some 41, none, .ixa (.t 39) (.t 40) 1⟩, ⟨some 42, none, .ld (.t 41) 1 false⟩, ⟨some 43, none, .mv (.t 0)⟩, ⟨some 44, none, .mv (.t 7)⟩, ⟨some 45, none, .ixa (.t 43) (.t 44) 1⟩, ⟨some 46, none, .ld (.t 45) 1 false⟩, ⟨some 47, none, .bin .sub (.t 42) (.t 46)⟩, ⟨some 48, none, .call fn_spec_frac [.t 38, .t 47]⟩, ⟨some 49, none, .bsl 1 2 [.int .i64 0, .int .i64 0] [(0, .t 48)]⟩] []) (.reg [⟨some 50, none, .app (.t 29) (.t 49) 2 16⟩, ⟨some 5, none, .mv (.t 50)⟩])) .skip))) (.reg [⟨some 18, none, .mv (.t 7)⟩, ⟨some 19, none, .bin .add (.t 18) (.c (.int .i64 1))⟩, ⟨some 7, none, .mv (.t 19)⟩]))))))) (.reg [⟨some 13, none, .mv (.t 6)⟩, ⟨some 14, none, .bin .add (.t 13) (.c (.int .i64 1))⟩, ⟨some 6, none, .mv (.t 14)⟩])))))) (.seq (.reg [⟨some 51, none, .mv (.t 5)⟩, ⟨some 4, none, .mv (.t 51)⟩]) .ret)))
theorem code_spec_slopes : HasCode Try.prog fn_spec_slopes mc_spec_slopes [.t 4] 52 := ⟨mixed, Try.f24, _, Try.func24, rfl, by kernel_rfl, by kernel_rfl, rfl, by kernel_rfl⟩

def mc_spec_breadth : MC :=
  .seq (.reg [⟨some 5, none, .box (.t 2)⟩, ⟨some 6, none, .new [.int .i64 0, .int .i64 0]⟩]) (.seq (.drw [⟨some 11, none, .mv (.t 0)⟩, ⟨some 12, none, .ixa (.t 11) (.c (.int .i64 0)) 1⟩, ⟨some 13, none, .ld (.t 12) 1 false⟩, ⟨some 14, none, .mv (.t 1)⟩, ⟨some 15, none, .ixa (.t 14) (.c (.int .i64 0)) 1⟩, ⟨some 16, none, .ld (.t 15) 1 false⟩, ⟨some 17, none, .ld (.t 5) 2 true⟩, ⟨some 18, none, .call fn_spec_frac [.c (.int .i64 0), .c (.int .i64 1)]⟩, ⟨some 19, none, .call fn_spec_over [.t 13, .t 16, .t 17, .t 18]⟩, ⟨some 7, none, .new [.int .i64 0, .int .i64 0]⟩, ⟨none, none, .st (.t 7) (.t 19) 2⟩] [(2, 9), (5, 9), (6, 9)]) (.seq (.reg [⟨some 20, none, .ld (.t 7) 2 true⟩, ⟨some 8, none, .new [.int .i64 0, .int .i64 0]⟩, ⟨none, none, .st (.t 8) (.t 20) 2⟩]) (.seq (.seq (.reg [⟨some 9, none, .mv (.c (.int .i64 1))⟩]) (.block 0 (.loop (.seq (.seq (.reg [⟨some 21, none, .mv (.t 9)⟩, ⟨some 22, none, .mv (.t 0)⟩, ⟨some 23, none, .len (.t 22)⟩, ⟨some 24, none, .bin .lss (.t 21) (.t 23)⟩]) (.cond (.t 24) .skip (.exit 0))) (.seq (.block 1 (.seq (.drw [⟨some 27, none, .mv (.t 0)⟩, ⟨some 28, none, .mv (.t 9)⟩, ⟨some 29, none, .ixa (.t 27) (.t 28) 1⟩, ⟨some 30, none, .ld (.t 29) 1 false⟩, ⟨some 31, none, .mv (.t 1)⟩, ⟨some 32, none, .mv (.t 9)⟩, ⟨some 33, none, .ixa (.t 31) (.t 32) 1⟩, ⟨some 34, none, .ld (.t 33) 1 false⟩, ⟨some 35, none, .ld (.t 5) 2 true⟩, ⟨some 36, none, .call fn_spec_frac [.c (.int .i64 0), .c (.int .i64 1)]⟩, ⟨some 37, none, .call fn_spec_over [.t 30, .t 34, .t 35, .t 36]⟩, ⟨some 10, none, .new [.int .i64 0, .int .i64 0]⟩, ⟨none, none, .st (.t 10) (.t 37) 2⟩] [(3, 11), (7, 11), (8, 11)]) (.seq (.seq (.reg [⟨some 38, none, .ld (.t 10) 2 true⟩, ⟨some 39, none, .ld (.t 7) 2 true⟩, ⟨some 40, none, .call fn_spec_less [.t 38, .t 39]⟩]) (.cond (.t 40) (.reg [⟨some 41, none, .ld (.t 10) 2 true⟩, ⟨none, none, .st (.t 7) (.t 41) 2⟩]) .skip)) (.seq (.reg [⟨some 42, none, .ld (.t 8) 2 true⟩, ⟨some 43, none, .ld (.t 10) 2 true⟩, ⟨some 44, none, .call fn_spec_less [.t 42, .t 43]⟩]) (.cond (.t 44) (.reg [⟨some 45, none, .ld (.t 10) 2 true⟩, ⟨none, none, .st (.t 8) (.t 45) 2⟩]) .skip))))) (.reg [⟨some 25, none, .mv (.t 9)⟩, ⟨some 26, none, .bin .add (.t 25) (.c (.int .i64 1))⟩, ⟨some 9, none, .mv (.t 26)⟩])))))) (.seq (.reg [⟨some 46, none, .ld (.t 8) 2 true⟩, ⟨some 47, none, .ld (.t 7) 2 true⟩, ⟨some 48, none, .call fn_spec_minus [.t 46, .t 47]⟩, ⟨some 49, none, .call fn_spec_frac [.c (.int .i64 1), .c (.int .i64 2)]⟩, ⟨some 50, none, .call fn_spec_times [.t 48, .t 49]⟩, ⟨none, none, .st (.t 6) (.t 50) 2⟩]) .ret))))
theorem code_spec_breadth : HasCode Try.prog fn_spec_breadth mc_spec_breadth [.c 6 2 true] 51 := ⟨mixed, Try.f25, _, Try.func25, rfl, by kernel_rfl, by kernel_rfl, rfl, by kernel_rfl⟩

def mc_spec_less : MC :=
  .seq (.reg [⟨some 2, none, .box (.t 0)⟩, ⟨some 3, none, .box (.t 1)⟩, ⟨some 4, none, .mv (.c (.bool false))⟩]) (.seq (.reg [⟨some 5, none, .fa (.t 2) 0⟩, ⟨some 6, none, .ld (.t 5) 1 false⟩, ⟨some 7, none, .fa (.t 3) 1⟩, ⟨some 8, none, .ld (.t 7) 1 false⟩, ⟨some 9, none, .bin .mul (.t 6) (.t 8)⟩, ⟨some 10, none, .fa (.t 3) 0⟩, ⟨some 11, none, .ld (.t 10) 1 false⟩, ⟨some 12, none, .fa (.t 2) 1⟩, ⟨some 13, none, .ld (.t 12) 1 false⟩, ⟨some 14, none, .bin .mul (.t 11) (.t 13)⟩, ⟨some 15, none, .bin .lss (.t 9) (.t 14)⟩, ⟨some 4, none, .mv (.t 15)⟩]) .ret)
theorem code_spec_less : HasCode Try.prog fn_spec_less mc_spec_less [.t 4] 16 := ⟨mixed, Try.f26, _, Try.func26, rfl, by kernel_rfl, by kernel_rfl, rfl, by kernel_rfl⟩

def mc_impl_ValidCloud : MC :=
  .seq (.reg [⟨some 4, none, .mv (.c (.bool false))⟩]) (.seq (.reg [⟨some 5, none, .mv (.t 0)⟩, ⟨some 6, none, .mv (.t 1)⟩, ⟨some 7, none, .call fn_impl_validPoints [.t 5, .t 6, .c (.int .i64 7)]⟩, ⟨some 8, none, .mv (.t 7)⟩, ⟨some 9, some (8, true), .mv (.t 0)⟩, ⟨some 10, some (8, true), .call fn_slices_Min_ints [.t 9]⟩, ⟨some 11, some (8, true), .mv (.t 0)⟩, ⟨some 12, some (8, true), .call fn_slices_Max_ints [.t 11]⟩, ⟨some 13, some (8, true), .bin .lss (.t 10) (.t 12)⟩, ⟨some 14, none, .pick (.t 8) (.t 13) (.c (.bool false))⟩, ⟨some 4, none, .mv (.t 14)⟩]) .ret)
theorem code_impl_ValidCloud : HasCode Try.prog fn_impl_ValidCloud mc_impl_ValidCloud [.t 4] 15 := ⟨mixed, Try.f27, _, Try.func27, rfl, by kernel_rfl, by kernel_rfl, rfl, by kernel_rfl⟩

def mc_impl_sideBySide : MC :=
  .seq (.reg [⟨some 1, none, .box (.t 0)⟩, ⟨some 2, none, .mv (.c .nilFunc)⟩]) (.seq (.reg [⟨some 3, none, .mkf fn_impl_sideBySide_1 [.t 1]⟩, ⟨some 2, none, .mv (.t 3)⟩]) .ret)
theorem code_impl_sideBySide : HasCode Try.prog fn_impl_sideBySide mc_impl_sideBySide [.t 2] 4 := ⟨mixed, Try.f28, _, Try.func28, rfl, by kernel_rfl, by kernel_rfl, rfl, by kernel_rfl⟩

def mc_impl_without : MC :=
  .seq (.reg [⟨some 4, none, .mv (.c .nilSlice)⟩]) (.seq (.reg [⟨some 6, none, .mv (.t 0)⟩, ⟨some 7, none, .len (.t 6)⟩, ⟨some 8, none, .bin .sub (.t 7) (.c (.int .i64 1))⟩, ⟨some 9, none, .mks (.t 8) (.t 8) [.int .i64 0, .int .i64 0] 2 16⟩, ⟨some 5, none, .mv (.t 9)⟩]) (.seq (.reg [⟨some 10, none, .mv (.t 5)⟩, ⟨some 11, none, .mv (.t 0)⟩, ⟨some 12, none, .mv (.t 1)⟩, ⟨some 13, none, .sl (.t 11) none (some (.t 12)) none 2⟩, ⟨some 14, none, .cpy (.t 10) (.t 13) 2⟩]) (.seq (.drw [⟨some 15, none, .mv (.t 5)⟩, ⟨some 16, none, .mv (.t 1)⟩, ⟨some 17, none, .sl (.t 15) (some (.t 16)) none none 2⟩, ⟨some 18, none, .mv (.t 0)⟩, ⟨some 19, none, .mv (.t 1)⟩, ⟨some 20, none, .bin .add (.t 19) (.c (.int .i64 1))⟩, ⟨some 21, none, .sl (.t 18) (some (.t 20)) none none 2⟩, ⟨some 22, none, .cpy (.t 17) (.t 21) 2⟩] []) (.seq (.reg [⟨some 23, none, .mv (.t 5)⟩, ⟨some 4, none, .mv (.t 23)⟩]) .ret))))
theorem code_impl_without : HasCode Try.prog fn_impl_without mc_impl_without [.t 4] 24 := ⟨mixed, Try.f29, _, Try.func29, rfl, by kernel_rfl, by kernel_rfl, rfl, by kernel_rfl⟩

def mc_impl_through : MC :=
  .seq (.reg [⟨some 2, none, .box (.t 0)⟩, ⟨some 3, none, .box (.t 1)⟩, ⟨some 4, none, .new [.int .i64 0, .int .i64 0, .int .i64 0, .int .i64 0]⟩]) (.seq (.reg [⟨some 6, none, .fa (.t 3) 1⟩, ⟨some 7, none, .ld (.t 6) 1 false⟩, ⟨some 8, none, .fa (.t 2) 1⟩, ⟨some 9, none, .ld (.t 8) 1 false⟩, ⟨some 10, none, .bin .sub (.t 7) (.t 9)⟩, ⟨some 11, none, .fa (.t 3) 0⟩, ⟨some 12, none, .ld (.t 11) 1 false⟩, ⟨some 13, none, .fa (.t 2) 0⟩, ⟨some 14, none, .ld (.t 13) 1 false⟩, ⟨some 15, none, .bin .sub (.t 12) (.t 14)⟩, ⟨some 16, none, .call fn_impl_lowest [.t 10, .t 15]⟩, ⟨some 5, none, .new [.int .i64 0, .int .i64 0]⟩, ⟨none, none, .st (.t 5) (.t 16) 2⟩]) (.seq (.drc [⟨some 17, none, .ld (.t 5) 2 true⟩, ⟨some 18, none, .fa (.t 2) 1⟩, ⟨some 19, none, .ld (.t 18) 1 false⟩, ⟨some 20, none, .call fn_impl_whole [.t 19]⟩, ⟨some 21, none, .ld (.t 5) 2 true⟩, ⟨some 22, none, .fa (.t 2) 0⟩, ⟨some 23, none, .ld (.t 22) 1 false⟩, ⟨some 24, none, .call fn_impl_Frac_times [.t 21, .t 23]⟩, ⟨some 25, none, .call fn_impl_Frac_minus [.t 20, .t 24]⟩, ⟨some 26, none, .bld [.int .i64 0, .int .i64 0, .int .i64 0, .int .i64 0] [(0, 2, .t 17), (2, 2, .t 25)]⟩, ⟨none, none, .st (.t 4) (.t 26) 4⟩] []) .ret))
theorem code_impl_through : HasCode Try.prog fn_impl_through mc_impl_through [.c 4 4 true] 27 := ⟨mixed, Try.f30, _, Try.func30, rfl, by kernel_rfl, by kernel_rfl, rfl, by kernel_rfl⟩

def mc_impl_line_above : MC :=
  .seq (.reg [⟨some 2, none, .box (.t 0)⟩, ⟨some 3, none, .box (.t 1)⟩, ⟨some 4, none, .new [.int .i64 0, .int .i64 0]⟩]) (.seq (.drc [⟨some 5, none, .fa (.t 3) 1⟩, ⟨some 6, none, .ld (.t 5) 1 false⟩, ⟨some 7, none, .call fn_impl_whole [.t 6]⟩, ⟨some 8, none, .fa (.t 2) 0⟩, ⟨some 9, none, .ld (.t 8) 2 true⟩, ⟨some 10, none, .fa (.t 3) 0⟩, ⟨some 11, none, .ld (.t 10) 1 false⟩, ⟨some 12, none, .call fn_impl_Frac_times [.t 9, .t 11]⟩, ⟨some 13, none, .call fn_impl_Frac_minus [.t 7, .t 12]⟩, ⟨some 14, none, .fa (.t 2) 2⟩, ⟨some 15, none, .ld (.t 14) 2 true⟩, ⟨some 16, none, .call fn_impl_Frac_minus [.t 13, .t 15]⟩, ⟨none, none, .st (.t 4) (.t 16) 2⟩] []) .ret)
theorem code_impl_line_above : HasCode Try.prog fn_impl_line_above mc_impl_line_above [.c 4 2 true] 17 := ⟨mixed, Try.f31, _, Try.func31, rfl, by kernel_rfl, by kernel_rfl, rfl, by kernel_rfl⟩

def mc_impl_Frac_size : MC :=
  .seq (.reg [⟨some 1, none, .box (.t 0)⟩, ⟨some 2, none, .new [.int .i64 0, .int .i64 0]⟩]) (.seq (.drc [⟨some 3, none, .fa (.t 1) 0⟩, ⟨some 4, none, .ld (.t 3) 1 false⟩, ⟨some 5, none, .call fn_impl_apart [.t 4, .c (.int .i64 0)]⟩, ⟨some 6, none, .fa (.t 1) 1⟩, ⟨some 7, none, .ld (.t 6) 1 false⟩, ⟨some 8, none, .bld [.int .i64 0, .int .i64 0] [(0, 1, .t 5), (1, 1, .t 7)]⟩, ⟨none, none, .st (.t 2) (.t 8) 2⟩] []) .ret)
theorem code_impl_Frac_size : HasCode Try.prog fn_impl_Frac_size mc_impl_Frac_size [.c 2 2 true] 9 := ⟨mixed, Try.f32, _, Try.func32, rfl, by kernel_rfl, by kernel_rfl, rfl, by kernel_rfl⟩

def mc_impl_greatest_impl_Frac : MC :=
  .seq (.reg [⟨some 2, none, .box (.t 0)⟩, ⟨some 4, none, .new [.int .i64 0, .int .i64 0]⟩]) (.seq (.seq (.reg [⟨some 7, none, .mv (.t 1)⟩, ⟨some 8, none, .len (.t 7)⟩, ⟨some 9, none, .mv (.c (.int .i64 0))⟩]) (.block 0 (.loop (.seq (.reg [⟨some 10, none, .bin .lss (.t 9) (.t 8)⟩]) (.seq (.cond (.t 10) .skip (.exit 0)) (.seq (.block 1 (.seq (.reg [⟨some 11, none, .ixa (.t 7) (.t 9) 2⟩, ⟨some 12, none, .ld (.t 11) 2 true⟩, ⟨some 6, none, .new [.int .i64 0, .int .i64 0]⟩, ⟨none, none, .st (.t 6) (.t 12) 2⟩]) (.seq (.reg [⟨some 13, none, .ld (.t 6) 2 true⟩, ⟨some 14, none, .mki 27 (.t 13)⟩, ⟨some 15, none, .ld (.t 2) 2 true⟩, ⟨some 16, none, .inv [(27, fn_impl_Frac_compare)] (.t 14) [.t 15]⟩, ⟨some 17, none, .bin .gtr (.t 16) (.c (.int .i64 0))⟩]) (.cond (.t 17) (.reg [⟨some 18, none, .ld (.t 6) 2 true⟩, ⟨none, none, .st (.t 2) (.t 18) 2⟩]) .skip)))) (.reg [⟨some 19, none, .bin .add (.t 9) (.c (.int .i64 1))⟩, ⟨some 9, none, .mv (.t 19)⟩]))))))) (.seq (.reg [⟨some 20, none, .ld (.t 2) 2 true⟩, ⟨none, none, .st (.t 4) (.t 20) 2⟩]) .ret))
theorem code_impl_greatest_impl_Frac : HasCode Try.prog fn_impl_greatest_impl_Frac mc_impl_greatest_impl_Frac [.c 4 2 true] 21 := ⟨mixed, Try.f33, _, Try.func33, rfl, by kernel_rfl, by kernel_rfl, rfl, by kernel_rfl⟩

def mc_impl_whole : MC :=
  .seq (.reg [⟨some 2, none, .new [.int .i64 0, .int .i64 0]⟩]) (.seq (.reg [⟨some 3, none, .mv (.t 0)⟩, ⟨some 4, none, .bld [.int .i64 0, .int .i64 0] [(0, 1, .t 3), (1, 1, .c (.int .i64 1))]⟩, ⟨none, none, .st (.t 2) (.t 4) 2⟩]) .ret)
theorem code_impl_whole : HasCode Try.prog fn_impl_whole mc_impl_whole [.c 2 2 true] 5 := ⟨mixed, Try.f34, _, Try.func34, rfl, by kernel_rfl, by kernel_rfl, rfl, by kernel_rfl⟩

def mc_laws_divisor : MC :=
  .seq (.reg [⟨some 4, none, .mv (.c (.int .i64 0))⟩]) (.seq (.block 0 (.loop (.seq (.seq (.reg [⟨some 6, none, .mv (.t 1)⟩, ⟨some 7, none, .bin .neq (.t 6) (.c (.int .i64 0))⟩]) (.cond (.t 7) .skip (.exit 0))) (.block 1 (.seq (.reg [⟨some 8, none, .mv (.t 0)⟩, ⟨some 9, none, .mv (.t 1)⟩, ⟨some 10, none, .bin .rem (.t 8) (.t 9)⟩, ⟨some 5, none, .mv (.t 10)⟩]) (.seq (.reg [⟨some 11, none, .mv (.t 1)⟩, ⟨some 0, none, .mv (.t 11)⟩]) (.reg [⟨some 12, none, .mv (.t 5)⟩, ⟨some 1, none, .mv (.t 12)⟩]))))))) (.seq (.reg [⟨some 13, none, .mv (.t 0)⟩, ⟨some 14, none, .mv (.t 0)⟩, ⟨some 15, none, .un .neg (.t 14)⟩, ⟨some 16, none, .mnmx true (.t 13) [.t 15]⟩, ⟨some 4, none, .mv (.t 16)⟩]) .ret))
theorem code_laws_divisor : HasCode Try.prog fn_laws_divisor mc_laws_divisor [.t 4] 17 := ⟨mixed, Try.f35, _, Try.func35, rfl, by kernel_rfl, by kernel_rfl, rfl, by kernel_rfl⟩

def mc_spec_reader_pick : MC :=
  .seq (.reg [⟨some 4, none, .mv (.c (.int .i64 0))⟩]) (.seq (.reg [⟨some 7, none, .mv (.t 0)⟩, ⟨some 8, none, .mv (.t 0)⟩, ⟨some 9, none, .nilck (.t 8)⟩, ⟨some 10, none, .fa (.t 9) 1⟩, ⟨some 11, none, .ld (.t 10) 1 false⟩, ⟨some 12, none, .bin .add (.t 11) (.c (.int .i64 1))⟩, ⟨some 13, none, .nilck (.t 7)⟩, ⟨some 14, none, .fa (.t 13) 1⟩, ⟨none, none, .st (.t 14) (.t 12) 1⟩]) (.seq (.seq (.reg [⟨some 15, none, .mv (.t 1)⟩, ⟨some 16, none, .bin .lss (.t 15) (.c (.int .i64 1))⟩, ⟨some 17, none, .mv (.t 16)⟩, ⟨some 18, some (17, false), .mv (.t 0)⟩, ⟨some 19, some (17, false), .nilck (.t 18)⟩, ⟨some 20, some (17, false), .fa (.t 19) 0⟩, ⟨some 21, some (17, false), .ld (.t 20) 1 false⟩, ⟨some 22, some (17, false), .len (.t 21)⟩, ⟨some 23, some (17, false), .bin .eql (.t 22) (.c (.int .i64 0))⟩, ⟨some 24, none, .pick (.t 17) (.c (.bool true)) (.t 23)⟩]) (.cond (.t 24) (.seq (.reg [⟨some 4, none, .mv (.c (.int .i64 0))⟩]) .ret) .skip)) (.seq (.reg [⟨some 25, none, .mv (.t 0)⟩, ⟨some 26, none, .nilck (.t 25)⟩, ⟨some 27, none, .fa (.t 26) 1⟩, ⟨some 28, none, .ld (.t 27) 1 false⟩, ⟨some 29, none, .bin .sub (.t 28) (.c (.int .i64 1))⟩, ⟨some 5, none, .mv (.t 29)⟩]) (.seq (.seq (.reg [⟨some 30, none, .mv (.t 5)⟩, ⟨some 31, none, .mv (.t 0)⟩, ⟨some 32, none, .nilck (.t 31)⟩, ⟨some 33, none, .fa (.t 32) 0⟩, ⟨some 34, none, .ld (.t 33) 1 false⟩, ⟨some 35, none, .len (.t 34)⟩, ⟨some 36, none, .bin .lss (.t 30) (.t 35)⟩]) (.cond (.t 36) (.seq (.reg [⟨some 37, none, .mv (.t 0)⟩, ⟨some 38, none, .nilck (.t 37)⟩, ⟨some 39, none, .fa (.t 38) 0⟩, ⟨some 40, none, .ld (.t 39) 1 false⟩, ⟨some 41, none, .mv (.t 5)⟩, ⟨some 42, none, .ixa (.t 40) (.t 41) 1⟩, ⟨some 43, none, .ld (.t 42) 1 false⟩, ⟨some 44, none, .conv .i64 (.t 43)⟩, ⟨some 45, none, .mv (.t 1)⟩, ⟨some 46, none, .bin .rem (.t 44) (.t 45)⟩, ⟨some 4, none, .mv (.t 46)⟩]) .ret) .skip)) (.seq (.drq [⟨some 47, none, .mv (.t 0)⟩, ⟨some 48, none, .nilck (.t 47)⟩, ⟨some 49, none, .fa (.t 48) 0⟩, ⟨some 50, none, .ld (.t 49) 1 false⟩, ⟨some 51, none, .mv (.t 5)⟩, ⟨some 52, none, .mv (.t 0)⟩, ⟨some 53, none, .nilck (.t 52)⟩, ⟨some 54, none, .fa (.t 53) 0⟩, ⟨some 55, none, .ld (.t 54) 1 false⟩, ⟨some 56, none, .len (.t 55)⟩, ⟨some 57, none, .bin .rem (.t 51) (.t 56)⟩, ⟨some 58, none, .ixa (.t 50) (.t 57) 1⟩, ⟨some 59, none, .ld (.t 58) 1 false⟩, ⟨some 60, none, .conv .i64 (.t 59)⟩, ⟨some 61, none, .bin .mul (.t 60) (.c (.int .i64 131))⟩, ⟨some 62, none, .mv (.t 0)⟩, ⟨some 63, none, .nilck (.t 62)⟩, ⟨some 64, none, .fa (.t 63) 0⟩, ⟨some 65, none, .ld (.t 64) 1 false⟩, ⟨some 66, none, .mv (.t 5)⟩, ⟨some 67, none, .bin .mul (.t 66) (.c (.int .i64 7))⟩, ⟨some 68, none, .bin .add (.t 67) (.c (.int .i64 3))⟩, ⟨some 69, none, .mv (.t 0)⟩, ⟨some 70, none, .nilck (.t 69)⟩, ⟨some 71, none, .fa (.t 70) 0⟩, ⟨some 72, none, .ld (.t 71) 1 false⟩, ⟨some 73, none, .len (.t 72)⟩, ⟨some 74, none, .bin .rem (.t 68) (.t 73)⟩, ⟨some 75, none, .ixa (.t 65) (.t 74) 1⟩, ⟨some 76, none, .ld (.t 75) 1 false⟩, ⟨some 77, none, .conv .i64 (.t 76)⟩, ⟨some 78, none, .bin .mul (.t 77) (.c (.int .i64 1117))⟩, ⟨some 79, none, .bin .add (.t 61) (.t 78)⟩, ⟨some 80, none, .mv (.t 5)⟩, ⟨some 81, none, .bin .mul (.t 80) (.c (.int .i64 29))⟩, ⟨some 82, none, .bin .add (.t 79) (.t 81)⟩, ⟨some 83, none, .mv (.t 5)⟩, ⟨some 84, none, .mv (.t 0)⟩, ⟨some 85, none, .nilck (.t 84)⟩, ⟨some 86, none, .fa (.t 85) 0⟩, ⟨some 87, none, .ld (.t 86) 1 false⟩, ⟨some 88, none, .len (.t 87)⟩, ⟨some 89, none, .bin .quo (.t 83) (.t 88)⟩, ⟨some 90, none, .bin .mul (.t 89) (.c (.int .i64 53))⟩, ⟨some 91, none, .bin .add (.t 82) (.t 90)⟩, ⟨some 6, none, .mv (.t 91)⟩]) (.seq (.reg [⟨some 92, none, .mv (.t 6)⟩, ⟨some 93, none, .mv (.t 6)⟩, ⟨some 94, none, .bin .quo (.t 93) (.c (.int .i64 64))⟩, ⟨some 95, none, .bin .xor (.t 92) (.t 94)⟩, ⟨some 6, none, .mv (.t 95)⟩]) (.seq (.reg [⟨some 96, none, .mv (.t 6)⟩, ⟨some 97, none, .mv (.t 1)⟩, ⟨some 98, none, .bin .rem (.t 96) (.t 97)⟩, ⟨some 4, none, .mv (.t 98)⟩]) .ret)))))))
theorem code_spec_reader_pick : HasCode Try.prog fn_spec_reader_pick mc_spec_reader_pick [.t 4] 99 := ⟨mixed, Try.f36, _, Try.func36, rfl, by kernel_rfl, by kernel_rfl, rfl, by kernel_rfl⟩

def mc_spec_reader_one : MC :=
  .seq (.reg [⟨some 4, none, .mv (.c (.int .i64 0))⟩]) (.seq (.reg [⟨some 5, none, .mv (.t 1)⟩, ⟨some 6, none, .mv (.t 0)⟩, ⟨some 7, none, .mv (.t 1)⟩, ⟨some 8, none, .len (.t 7)⟩, ⟨some 9, none, .call fn_spec_reader_pick [.t 6, .t 8]⟩, ⟨some 10, none, .ixa (.t 5) (.t 9) 1⟩, ⟨some 11, none, .ld (.t 10) 1 false⟩, ⟨some 4, none, .mv (.t 11)⟩]) .ret)
theorem code_spec_reader_one : HasCode Try.prog fn_spec_reader_one mc_spec_reader_one [.t 4] 12 := ⟨mixed, Try.f37, _, Try.func37, rfl, by kernel_rfl, by kernel_rfl, rfl, by kernel_rfl⟩

def mc_slices_SortFunc_impl_Frac_impl_Frac : MC :=
  .seq (.reg [⟨some 5, none, .mv (.t 0)⟩, ⟨some 6, none, .len (.t 5)⟩, ⟨some 4, none, .mv (.t 6)⟩]) (.reg [⟨some 7, none, .mv (.t 0)⟩, ⟨some 8, none, .mv (.t 4)⟩, ⟨some 9, none, .mv (.t 4)⟩, ⟨some 10, none, .conv .u64 (.t 9)⟩, ⟨some 11, none, .call fn_math_bits_Len [.t 10]⟩, ⟨some 12, none, .mv (.t 1)⟩, ⟨some 13, none, .call fn_slices_pdqsortCmpFunc_impl_Frac [.t 7, .c (.int .i64 0), .t 8, .t 11, .t 12]⟩])
theorem code_slices_SortFunc_impl_Frac_impl_Frac : HasCode Try.prog fn_slices_SortFunc_impl_Frac_impl_Frac mc_slices_SortFunc_impl_Frac_impl_Frac [] 14 := ⟨mixed, Try.f38, _, Try.func38, rfl, by kernel_rfl, by kernel_rfl, rfl, by kernel_rfl⟩

def mc_impl_Frac_compare : MC :=
  .seq (.reg [⟨some 2, none, .box (.t 0)⟩, ⟨some 3, none, .box (.t 1)⟩, ⟨some 4, none, .mv (.c (.int .i64 0))⟩]) (.seq (.reg [⟨some 5, none, .fa (.t 2) 0⟩, ⟨some 6, none, .ld (.t 5) 1 false⟩, ⟨some 7, none, .fa (.t 3) 1⟩, ⟨some 8, none, .ld (.t 7) 1 false⟩, ⟨some 9, none, .bin .mul (.t 6) (.t 8)⟩, ⟨some 10, none, .fa (.t 3) 0⟩, ⟨some 11, none, .ld (.t 10) 1 false⟩, ⟨some 12, none, .fa (.t 2) 1⟩, ⟨some 13, none, .ld (.t 12) 1 false⟩, ⟨some 14, none, .bin .mul (.t 11) (.t 13)⟩, ⟨some 15, none, .call fn_cmp_Compare_int [.t 9, .t 14]⟩, ⟨some 4, none, .mv (.t 15)⟩]) .ret)
theorem code_impl_Frac_compare : HasCode Try.prog fn_impl_Frac_compare mc_impl_Frac_compare [.t 4] 16 := ⟨mixed, Try.f39, _, Try.func39, rfl, by kernel_rfl, by kernel_rfl, rfl, by kernel_rfl⟩

def mc_impl_Frac_minus : MC :=
  .seq (.reg [⟨some 2, none, .box (.t 0)⟩, ⟨some 3, none, .box (.t 1)⟩, ⟨some 4, none, .new [.int .i64 0, .int .i64 0]⟩]) (.seq (.reg [⟨some 5, none, .ld (.t 2) 2 true⟩, ⟨some 6, none, .fa (.t 3) 0⟩, ⟨some 7, none, .ld (.t 6) 1 false⟩, ⟨some 8, none, .un .neg (.t 7)⟩, ⟨some 9, none, .fa (.t 3) 1⟩, ⟨some 10, none, .ld (.t 9) 1 false⟩, ⟨some 11, none, .bld [.int .i64 0, .int .i64 0] [(0, 1, .t 8), (1, 1, .t 10)]⟩, ⟨some 12, none, .call fn_impl_Frac_plus [.t 5, .t 11]⟩, ⟨none, none, .st (.t 4) (.t 12) 2⟩]) .ret)
theorem code_impl_Frac_minus : HasCode Try.prog fn_impl_Frac_minus mc_impl_Frac_minus [.c 4 2 true] 13 := ⟨mixed, Try.f40, _, Try.func40, rfl, by kernel_rfl, by kernel_rfl, rfl, by kernel_rfl⟩

def mc_impl_lowest : MC :=
  .seq (.reg [⟨some 4, none, .new [.int .i64 0, .int .i64 0]⟩]) (.seq (.reg [⟨some 6, none, .mv (.t 0)⟩, ⟨some 7, none, .mv (.t 1)⟩, ⟨some 8, none, .call fn_impl_commonFactor [.t 6, .t 7]⟩, ⟨some 5, none, .mv (.t 8)⟩]) (.seq (.seq (.reg [⟨some 9, none, .mv (.t 1)⟩, ⟨some 10, none, .bin .lss (.t 9) (.c (.int .i64 0))⟩]) (.cond (.t 10) (.reg [⟨some 11, none, .mv (.t 5)⟩, ⟨some 12, none, .un .neg (.t 11)⟩, ⟨some 5, none, .mv (.t 12)⟩]) .skip)) (.seq (.drw [⟨some 13, none, .mv (.t 0)⟩, ⟨some 14, none, .mv (.t 5)⟩, ⟨some 15, none, .bin .quo (.t 13) (.t 14)⟩, ⟨some 16, none, .mv (.t 1)⟩, ⟨some 17, none, .mv (.t 5)⟩, ⟨some 18, none, .bin .quo (.t 16) (.t 17)⟩, ⟨some 19, none, .bld [.int .i64 0, .int .i64 0] [(0, 1, .t 15), (1, 1, .t 18)]⟩, ⟨none, none, .st (.t 4) (.t 19) 2⟩] []) .ret)))
theorem code_impl_lowest : HasCode Try.prog fn_impl_lowest mc_impl_lowest [.c 4 2 true] 20 := ⟨mixed, Try.f41, _, Try.func41, rfl, by kernel_rfl, by kernel_rfl, rfl, by kernel_rfl⟩

def mc_spec_validPoints : MC :=
  .seq (.reg [⟨some 4, none, .mv (.c (.bool false))⟩]) (.seq (.seq (.reg [⟨some 5, none, .mv (.c (.int .i64 0))⟩]) (.block 0 (.loop (.seq (.seq (.reg [⟨some 6, none, .mv (.t 5)⟩, ⟨some 7, none, .mv (.t 0)⟩, ⟨some 8, none, .len (.t 7)⟩, ⟨some 9, none, .bin .lss (.t 6) (.t 8)⟩]) (.cond (.t 9) .skip (.exit 0))) (.seq (.block 1 (.seq (.reg [⟨some 12, none, .mv (.t 5)⟩, ⟨some 13, none, .mv (.t 1)⟩, ⟨some 14, none, .len (.t 13)⟩, ⟨some 15, none, .bin .geq (.t 12) (.t 14)⟩, ⟨some 16, none, .mv (.t 15)⟩, ⟨some 17, some (16, false), .mv (.t 0)⟩, ⟨some 18, some (16, false), .mv (.t 5)⟩, ⟨some 19, some (16, false), .ixa (.t 17) (.t 18) 1⟩, ⟨some 20, some (16, false), .ld (.t 19) 1 false⟩, ⟨some 21, some (16, false), .call fn_spec_inRange [.t 20, .c (.int .i64 (-12)), .c (.int .i64 12)]⟩, ⟨some 22, some (16, false), .un .not (.t 21)⟩, ⟨some 23, none, .pick (.t 16) (.c (.bool true)) (.t 22)⟩, ⟨some 24, none, .mv (.t 23)⟩, ⟨some 25, some (24, false), .mv (.t 1)⟩, ⟨some 26, some (24, false), .mv (.t 5)⟩, ⟨some 27, some (24, false), .ixa (.t 25) (.t 26) 1⟩, ⟨some 28, some (24, false), .ld (.t 27) 1 false⟩, ⟨some 29, some (24, false), .call fn_spec_inRange [.t 28, .c (.int .i64 (-12)), .c (.int .i64 12)]⟩, ⟨some 30, some (24, false), .un .not (.t 29)⟩, ⟨some 31, none, .pick (.t 24) (.c (.bool true)) (.t 30)⟩]) (.cond (.t 31) (.seq (.reg [⟨some 4, none, .mv (.c (.bool false))⟩]) .ret) .skip))) (.reg [⟨some 10, none, .mv (.t 5)⟩, ⟨some 11, none, .bin .add (.t 10) (.c (.int .i64 1))⟩, ⟨some 5, none, .mv (.t 11)⟩])))))) (.seq (.reg [⟨some 32, none, .mv (.t 0)⟩, ⟨some 33, none, .len (.t 32)⟩, ⟨some 34, none, .mv (.t 1)⟩, ⟨some 35, none, .len (.t 34)⟩, ⟨some 36, none, .bin .eql (.t 33) (.t 35)⟩, ⟨some 37, none, .mv (.t 36)⟩, ⟨some 38, some (37, true), .mv (.t 0)⟩, ⟨some 39, some (37, true), .len (.t 38)⟩, ⟨some 40, some (37, true), .bin .leq (.t 39) (.c (.int .i64 7))⟩, ⟨some 41, none, .pick (.t 37) (.t 40) (.c (.bool false))⟩, ⟨some 4, none, .mv (.t 41)⟩]) .ret))
theorem code_spec_validPoints : HasCode Try.prog fn_spec_validPoints mc_spec_validPoints [.t 4] 42 := ⟨mixed, Try.f42, _, Try.func42, rfl, by kernel_rfl, by kernel_rfl, rfl, by kernel_rfl⟩

def mc_spec_wide : MC :=
  .seq (.reg [⟨some 2, none, .mv (.c (.bool false))⟩]) (.seq (.seq (.reg [⟨some 3, none, .mv (.c (.int .i64 1))⟩]) (.block 0 (.loop (.seq (.seq (.reg [⟨some 4, none, .mv (.t 3)⟩, ⟨some 5, none, .mv (.t 0)⟩, ⟨some 6, none, .len (.t 5)⟩, ⟨some 7, none, .bin .lss (.t 4) (.t 6)⟩]) (.cond (.t 7) .skip (.exit 0))) (.seq (.block 1 (.seq (.drq [⟨some 10, none, .mv (.t 0)⟩, ⟨some 11, none, .mv (.t 3)⟩, ⟨some 12, none, .ixa (.t 10) (.t 11) 1⟩, ⟨some 13, none, .ld (.t 12) 1 false⟩, ⟨some 14, none, .mv (.t 0)⟩, ⟨some 15, none, .ixa (.t 14) (.c (.int .i64 0)) 1⟩, ⟨some 16, none, .ld (.t 15) 1 false⟩, ⟨some 17, none, .bin .neq (.t 13) (.t 16)⟩]) (.cond (.t 17) (.seq (.reg [⟨some 2, none, .mv (.c (.bool true))⟩]) .ret) .skip))) (.reg [⟨some 8, none, .mv (.t 3)⟩, ⟨some 9, none, .bin .add (.t 8) (.c (.int .i64 1))⟩, ⟨some 3, none, .mv (.t 9)⟩])))))) (.seq (.reg [⟨some 2, none, .mv (.c (.bool false))⟩]) .ret))
theorem code_spec_wide : HasCode Try.prog fn_spec_wide mc_spec_wide [.t 2] 18 := ⟨mixed, Try.f43, _, Try.func43, rfl, by kernel_rfl, by kernel_rfl, rfl, by kernel_rfl⟩

def mc_spec_frac : MC :=
  .seq (.reg [⟨some 4, none, .new [.int .i64 0, .int .i64 0]⟩]) (.seq (.seq (.reg [⟨some 6, none, .mv (.t 1)⟩, ⟨some 7, none, .bin .lss (.t 6) (.c (.int .i64 0))⟩]) (.cond (.t 7) (.seq (.reg [⟨some 8, none, .mv (.t 0)⟩, ⟨some 9, none, .un .neg (.t 8)⟩, ⟨some 0, none, .mv (.t 9)⟩]) (.reg [⟨some 10, none, .mv (.t 1)⟩, ⟨some 11, none, .un .neg (.t 10)⟩, ⟨some 1, none, .mv (.t 11)⟩])) .skip)) (.seq (.reg [⟨some 12, none, .mv (.t 0)⟩, ⟨some 13, none, .mv (.t 1)⟩, ⟨some 14, none, .call fn_spec_gcd [.t 12, .t 13]⟩, ⟨some 5, none, .mv (.t 14)⟩]) (.seq (.drw [⟨some 15, none, .mv (.t 0)⟩, ⟨some 16, none, .mv (.t 5)⟩, ⟨some 17, none, .bin .quo (.t 15) (.t 16)⟩, ⟨some 18, none, .mv (.t 1)⟩, ⟨some 19, none, .mv (.t 5)⟩, ⟨some 20, none, .bin .quo (.t 18) (.t 19)⟩, ⟨some 21, none, .bld [.int .i64 0, .int .i64 0] [(0, 1, .t 17), (1, 1, .t 20)]⟩, ⟨none, none, .st (.t 4) (.t 21) 2⟩] []) .ret)))
theorem code_spec_frac : HasCode Try.prog fn_spec_frac mc_spec_frac [.c 4 2 true] 22 := ⟨mixed, Try.f44, _, Try.func44, rfl, by kernel_rfl, by kernel_rfl, rfl, by kernel_rfl⟩

def mc_spec_over : MC :=
  .seq (.reg [⟨some 6, none, .box (.t 2)⟩, ⟨some 7, none, .box (.t 3)⟩, ⟨some 8, none, .new [.int .i64 0, .int .i64 0]⟩]) (.seq (.drc [⟨some 9, none, .mv (.t 1)⟩, ⟨some 10, none, .call fn_spec_frac [.t 9, .c (.int .i64 1)]⟩, ⟨some 11, none, .ld (.t 6) 2 true⟩, ⟨some 12, none, .mv (.t 0)⟩, ⟨some 13, none, .call fn_spec_frac [.t 12, .c (.int .i64 1)]⟩, ⟨some 14, none, .call fn_spec_times [.t 11, .t 13]⟩, ⟨some 15, none, .ld (.t 7) 2 true⟩, ⟨some 16, none, .call fn_spec_plus [.t 14, .t 15]⟩, ⟨some 17, none, .call fn_spec_minus [.t 10, .t 16]⟩, ⟨none, none, .st (.t 8) (.t 17) 2⟩] []) .ret)
theorem code_spec_over : HasCode Try.prog fn_spec_over mc_spec_over [.c 8 2 true] 18 := ⟨mixed, Try.f45, _, Try.func45, rfl, by kernel_rfl, by kernel_rfl, rfl, by kernel_rfl⟩

def mc_spec_times : MC :=
  .seq (.reg [⟨some 2, none, .box (.t 0)⟩, ⟨some 3, none, .box (.t 1)⟩, ⟨some 4, none, .new [.int .i64 0, .int .i64 0]⟩]) (.seq (.reg [⟨some 5, none, .fa (.t 2) 0⟩, ⟨some 6, none, .ld (.t 5) 1 false⟩, ⟨some 7, none, .fa (.t 3) 0⟩, ⟨some 8, none, .ld (.t 7) 1 false⟩, ⟨some 9, none, .bin .mul (.t 6) (.t 8)⟩, ⟨some 10, none, .fa (.t 2) 1⟩, ⟨some 11, none, .ld (.t 10) 1 false⟩, ⟨some 12, none, .fa (.t 3) 1⟩, ⟨some 13, none, .ld (.t 12) 1 false⟩, ⟨some 14, none, .bin .mul (.t 11) (.t 13)⟩, ⟨some 15, none, .call fn_spec_frac [.t 9, .t 14]⟩, ⟨none, none, .st (.t 4) (.t 15) 2⟩]) .ret)
theorem code_spec_times : HasCode Try.prog fn_spec_times mc_spec_times [.c 4 2 true] 16 := ⟨mixed, Try.f46, _, Try.func46, rfl, by kernel_rfl, by kernel_rfl, rfl, by kernel_rfl⟩

def mc_spec_minus : MC :=
  .seq (.reg [⟨some 2, none, .box (.t 0)⟩, ⟨some 3, none, .box (.t 1)⟩, ⟨some 4, none, .new [.int .i64 0, .int .i64 0]⟩]) (.seq (.reg [⟨some 5, none, .fa (.t 2) 0⟩, ⟨some 6, none, .ld (.t 5) 1 false⟩, ⟨some 7, none, .fa (.t 3) 1⟩, ⟨some 8, none, .ld (.t 7) 1 false⟩, ⟨some 9, none, .bin .mul (.t 6) (.t 8)⟩, ⟨some 10, none, .fa (.t 3) 0⟩, ⟨some 11, none, .ld (.t 10) 1 false⟩, ⟨some 12, none, .fa (.t 2) 1⟩, ⟨some 13, none, .ld (.t 12) 1 false⟩, ⟨some 14, none, .bin .mul (.t 11) (.t 13)⟩, ⟨some 15, none, .bin .sub (.t 9) (.t 14)⟩, ⟨some 16, none, .fa (.t 2) 1⟩, ⟨some 17, none, .ld (.t 16) 1 false⟩, ⟨some 18, none, .fa (.t 3) 1⟩, ⟨some 19, none, .ld (.t 18) 1 false⟩, ⟨some 20, none, .bin .mul (.t 17) (.t 19)⟩, ⟨some 21, none, .call fn_spec_frac [.t 15, .t 20]⟩, ⟨none, none, .st (.t 4) (.t 21) 2⟩]) .ret)
theorem code_spec_minus : HasCode Try.prog fn_spec_minus mc_spec_minus [.c 4 2 true] 22 := ⟨mixed, Try.f47, _, Try.func47, rfl, by kernel_rfl, by kernel_rfl, rfl, by kernel_rfl⟩

def mc_impl_validPoints : MC :=
  .seq (.reg [⟨some 6, none, .mv (.c (.bool false))⟩]) (.seq (.seq (.reg [⟨some 8, none, .mv (.t 0)⟩, ⟨some 9, none, .len (.t 8)⟩, ⟨some 10, none, .mv (.t 1)⟩, ⟨some 11, none, .len (.t 10)⟩, ⟨some 12, none, .bin .neq (.t 9) (.t 11)⟩, ⟨some 13, none, .mv (.t 12)⟩, ⟨some 14, some (13, false), .mv (.t 0)⟩, ⟨some 15, some (13, false), .len (.t 14)⟩, ⟨some 16, some (13, false), .bin .lss (.t 15) (.c (.int .i64 1))⟩, ⟨some 17, none, .pick (.t 13) (.c (.bool true)) (.t 16)⟩, ⟨some 18, none, .mv (.t 17)⟩, ⟨some 19, some (18, false), .mv (.t 0)⟩, ⟨some 20, some (18, false), .len (.t 19)⟩, ⟨some 21, some (18, false), .mv (.t 2)⟩, ⟨some 22, some (18, false), .bin .gtr (.t 20) (.t 21)⟩, ⟨some 23, none, .pick (.t 18) (.c (.bool true)) (.t 22)⟩]) (.cond (.t 23) (.seq (.reg [⟨some 6, none, .mv (.c (.bool false))⟩]) .ret) .skip)) (.seq (.seq (.reg [⟨some 24, none, .mv (.t 0)⟩, ⟨some 25, none, .len (.t 24)⟩, ⟨some 26, none, .mv (.c (.int .i64 0))⟩]) (.block 0 (.loop (.seq (.reg [⟨some 27, none, .bin .lss (.t 26) (.t 25)⟩]) (.seq (.cond (.t 27) .skip (.exit 0)) (.seq (.block 1 (.seq (.reg [⟨some 28, none, .mv (.t 26)⟩, ⟨some 7, none, .mv (.t 28)⟩]) (.seq (.reg [⟨some 29, none, .mv (.t 0)⟩, ⟨some 30, none, .mv (.t 7)⟩, ⟨some 31, none, .ixa (.t 29) (.t 30) 1⟩, ⟨some 32, none, .ld (.t 31) 1 false⟩, ⟨some 33, none, .call fn_impl_validPlace [.t 32]⟩, ⟨some 34, none, .un .not (.t 33)⟩, ⟨some 35, none, .mv (.t 34)⟩, ⟨some 36, some (35, false), .mv (.t 1)⟩, ⟨some 37, some (35, false), .mv (.t 7)⟩, ⟨some 38, some (35, false), .ixa (.t 36) (.t 37) 1⟩, ⟨some 39, some (35, false), .ld (.t 38) 1 false⟩, ⟨some 40, some (35, false), .call fn_impl_validPlace [.t 39]⟩, ⟨some 41, some (35, false), .un .not (.t 40)⟩, ⟨some 42, none, .pick (.t 35) (.c (.bool true)) (.t 41)⟩]) (.cond (.t 42) (.seq (.reg [⟨some 6, none, .mv (.c (.bool false))⟩]) .ret) .skip)))) (.reg [⟨some 43, none, .bin .add (.t 26) (.c (.int .i64 1))⟩, ⟨some 26, none, .mv (.t 43)⟩]))))))) (.seq (.reg [⟨some 6, none, .mv (.c (.bool true))⟩]) .ret)))
theorem code_impl_validPoints : HasCode Try.prog fn_impl_validPoints mc_impl_validPoints [.t 6] 44 := ⟨mixed, Try.f48, _, Try.func48, rfl, by kernel_rfl, by kernel_rfl, rfl, by kernel_rfl⟩

def mc_slices_Min_ints : MC :=
  .seq (.reg [⟨some 2, none, .mv (.c (.int .i64 0))⟩]) (.seq (.seq (.reg [⟨some 5, none, .mv (.t 0)⟩, ⟨some 6, none, .len (.t 5)⟩, ⟨some 7, none, .bin .lss (.t 6) (.c (.int .i64 1))⟩]) (.cond (.t 7) (.reg [⟨some 8, none, .mki 9 (.c (.str [115, 108, 105, 99, 101, 115, 46, 77, 105, 110, 58, 32, 101, 109, 112, 116, 121, 32, 108, 105, 115, 116]))⟩, ⟨none, none, .die⟩]) .skip)) (.seq (.reg [⟨some 9, none, .mv (.t 0)⟩, ⟨some 10, none, .ixa (.t 9) (.c (.int .i64 0)) 1⟩, ⟨some 11, none, .ld (.t 10) 1 false⟩, ⟨some 3, none, .mv (.t 11)⟩]) (.seq (.seq (.reg [⟨some 4, none, .mv (.c (.int .i64 1))⟩]) (.block 0 (.loop (.seq (.seq (.reg [⟨some 12, none, .mv (.t 4)⟩, ⟨some 13, none, .mv (.t 0)⟩, ⟨some 14, none, .len (.t 13)⟩, ⟨some 15, none, .bin .lss (.t 12) (.t 14)⟩]) (.cond (.t 15) .skip (.exit 0))) (.seq (.block 1 (.reg [⟨some 18, none, .mv (.t 3)⟩, ⟨some 19, none, .mv (.t 0)⟩, ⟨some 20, none, .mv (.t 4)⟩, ⟨some 21, none, .ixa (.t 19) (.t 20) 1⟩, ⟨some 22, none, .ld (.t 21) 1 false⟩, ⟨some 23, none, .mnmx false (.t 18) [.t 22]⟩, ⟨some 3, none, .mv (.t 23)⟩])) (.reg [⟨some 16, none, .mv (.t 4)⟩, ⟨some 17, none, .bin .add (.t 16) (.c (.int .i64 1))⟩, ⟨some 4, none, .mv (.t 17)⟩])))))) (.seq (.reg [⟨some 24, none, .mv (.t 3)⟩, ⟨some 2, none, .mv (.t 24)⟩]) .ret))))
theorem code_slices_Min_ints : HasCode Try.prog fn_slices_Min_ints mc_slices_Min_ints [.t 2] 25 := ⟨mixed, Try.f49, _, Try.func49, rfl, by kernel_rfl, by kernel_rfl, rfl, by kernel_rfl⟩

def mc_slices_Max_ints : MC :=
  .seq (.reg [⟨some 2, none, .mv (.c (.int .i64 0))⟩]) (.seq (.seq (.reg [⟨some 5, none, .mv (.t 0)⟩, ⟨some 6, none, .len (.t 5)⟩, ⟨some 7, none, .bin .lss (.t 6) (.c (.int .i64 1))⟩]) (.cond (.t 7) (.reg [⟨some 8, none, .mki 9 (.c (.str [115, 108, 105, 99, 101, 115, 46, 77, 97, 120, 58, 32, 101, 109, 112, 116, 121, 32, 108, 105, 115, 116]))⟩, ⟨none, none, .die⟩]) .skip)) (.seq (.reg [⟨some 9, none, .mv (.t 0)⟩, ⟨some 10, none, .ixa (.t 9) (.c (.int .i64 0)) 1⟩, ⟨some 11, none, .ld (.t 10) 1 false⟩, ⟨some 3, none, .mv (.t 11)⟩]) (.seq (.seq (.reg [⟨some 4, none, .mv (.c (.int .i64 1))⟩]) (.block 0 (.loop (.seq (.seq (.reg [⟨some 12, none, .mv (.t 4)⟩, ⟨some 13, none, .mv (.t 0)⟩, ⟨some 14, none, .len (.t 13)⟩, ⟨some 15, none, .bin .lss (.t 12) (.t 14)⟩]) (.cond (.t 15) .skip (.exit 0))) (.seq (.block 1 (.reg [⟨some 18, none, .mv (.t 3)⟩, ⟨some 19, none, .mv (.t 0)⟩, ⟨some 20, none, .mv (.t 4)⟩, ⟨some 21, none, .ixa (.t 19) (.t 20) 1⟩, ⟨some 22, none, .ld (.t 21) 1 false⟩, ⟨some 23, none, .mnmx true (.t 18) [.t 22]⟩, ⟨some 3, none, .mv (.t 23)⟩])) (.reg [⟨some 16, none, .mv (.t 4)⟩, ⟨some 17, none, .bin .add (.t 16) (.c (.int .i64 1))⟩, ⟨some 4, none, .mv (.t 17)⟩])))))) (.seq (.reg [⟨some 24, none, .mv (.t 3)⟩, ⟨some 2, none, .mv (.t 24)⟩]) .ret))))
theorem code_slices_Max_ints : HasCode Try.prog fn_slices_Max_ints mc_slices_Max_ints [.t 2] 25 := ⟨mixed, Try.f50, _, Try.func50, rfl, by kernel_rfl, by kernel_rfl, rfl, by kernel_rfl⟩

def mc_impl_sideBySide_1 : MC :=
  .seq (.reg [⟨some 7, none, .ld (.t 1) 1 false⟩, ⟨some 8, none, .len (.t 7)⟩, ⟨some 9, none, .mv (.c (.int .i64 0))⟩]) (.block 0 (.loop (.seq (.reg [⟨some 10, none, .bin .lss (.t 9) (.t 8)⟩]) (.seq (.cond (.t 10) .skip (.exit 0)) (.seq (.block 1 (.seq (.reg [⟨some 11, none, .mv (.t 9)⟩, ⟨some 12, none, .ixa (.t 7) (.t 9) 2⟩, ⟨some 13, none, .ld (.t 12) 2 true⟩, ⟨some 4, none, .new [.int .i64 0, .int .i64 0]⟩, ⟨some 3, none, .mv (.t 11)⟩, ⟨none, none, .st (.t 4) (.t 13) 2⟩]) (.seq (.reg [⟨some 14, none, .ld (.t 1) 1 false⟩, ⟨some 15, none, .mv (.t 3)⟩, ⟨some 16, none, .bin .add (.t 15) (.c (.int .i64 1))⟩, ⟨some 17, none, .sl (.t 14) (some (.t 16)) none none 2⟩, ⟨some 18, none, .len (.t 17)⟩, ⟨some 19, none, .mv (.c (.int .i64 0))⟩]) (.block 2 (.loop (.seq (.reg [⟨some 20, none, .bin .lss (.t 19) (.t 18)⟩]) (.seq (.cond (.t 20) .skip (.exit 2)) (.seq (.block 3 (.seq (.reg [⟨some 21, none, .ixa (.t 17) (.t 19) 2⟩, ⟨some 22, none, .ld (.t 21) 2 true⟩, ⟨some 6, none, .new [.int .i64 0, .int .i64 0]⟩, ⟨none, none, .st (.t 6) (.t 22) 2⟩]) (.seq (.reg [⟨some 23, none, .fa (.t 4) 0⟩, ⟨some 24, none, .ld (.t 23) 1 false⟩, ⟨some 25, none, .fa (.t 6) 0⟩, ⟨some 26, none, .ld (.t 25) 1 false⟩, ⟨some 27, none, .bin .neq (.t 24) (.t 26)⟩, ⟨some 28, none, .mv (.t 27)⟩, ⟨some 29, some (28, true), .mv (.t 0)⟩, ⟨some 30, some (28, true), .ld (.t 4) 2 true⟩, ⟨some 31, some (28, true), .ld (.t 6) 2 true⟩, ⟨some 32, some (28, true), .callv (.t 29) [.t 30, .t 31]⟩, ⟨some 33, some (28, true), .un .not (.t 32)⟩, ⟨some 34, none, .pick (.t 28) (.t 33) (.c (.bool false))⟩]) (.cond (.t 34) .ret .skip)))) (.reg [⟨some 35, none, .bin .add (.t 19) (.c (.int .i64 1))⟩, ⟨some 19, none, .mv (.t 35)⟩]))))))))) (.reg [⟨some 36, none, .bin .add (.t 9) (.c (.int .i64 1))⟩, ⟨some 9, none, .mv (.t 36)⟩]))))))
theorem code_impl_sideBySide_1 : HasCode Try.prog fn_impl_sideBySide_1 mc_impl_sideBySide_1 [] 37 := ⟨mixed, Try.f51, _, Try.func51, rfl, by kernel_rfl, by kernel_rfl, rfl, by kernel_rfl⟩

def mc_impl_Frac_times : MC :=
  .seq (.reg [⟨some 2, none, .box (.t 0)⟩, ⟨some 4, none, .new [.int .i64 0, .int .i64 0]⟩]) (.seq (.reg [⟨some 5, none, .fa (.t 2) 0⟩, ⟨some 6, none, .ld (.t 5) 1 false⟩, ⟨some 7, none, .mv (.t 1)⟩, ⟨some 8, none, .bin .mul (.t 6) (.t 7)⟩, ⟨some 9, none, .fa (.t 2) 1⟩, ⟨some 10, none, .ld (.t 9) 1 false⟩, ⟨some 11, none, .call fn_impl_lowest [.t 8, .t 10]⟩, ⟨none, none, .st (.t 4) (.t 11) 2⟩]) .ret)
theorem code_impl_Frac_times : HasCode Try.prog fn_impl_Frac_times mc_impl_Frac_times [.c 4 2 true] 12 := ⟨mixed, Try.f52, _, Try.func52, rfl, by kernel_rfl, by kernel_rfl, rfl, by kernel_rfl⟩

def mc_impl_apart : MC :=
  .seq (.reg [⟨some 4, none, .mv (.c (.int .i64 0))⟩]) (.seq (.reg [⟨some 5, none, .mv (.t 0)⟩, ⟨some 6, none, .mv (.t 1)⟩, ⟨some 7, none, .bin .sub (.t 5) (.t 6)⟩, ⟨some 8, none, .mv (.t 1)⟩, ⟨some 9, none, .mv (.t 0)⟩, ⟨some 10, none, .bin .sub (.t 8) (.t 9)⟩, ⟨some 11, none, .mnmx true (.t 7) [.t 10]⟩, ⟨some 4, none, .mv (.t 11)⟩]) .ret)
theorem code_impl_apart : HasCode Try.prog fn_impl_apart mc_impl_apart [.t 4] 12 := ⟨mixed, Try.f53, _, Try.func53, rfl, by kernel_rfl, by kernel_rfl, rfl, by kernel_rfl⟩

def mc_cmp_Compare_int : MC :=
  .seq (.reg [⟨some 4, none, .mv (.c (.int .i64 0))⟩]) (.seq (.reg [⟨some 7, none, .mv (.t 0)⟩, ⟨some 8, none, .call fn_cmp_isNaN_int [.t 7]⟩, ⟨some 5, none, .mv (.t 8)⟩]) (.seq (.reg [⟨some 9, none, .mv (.t 1)⟩, ⟨some 10, none, .call fn_cmp_isNaN_int [.t 9]⟩, ⟨some 6, none, .mv (.t 10)⟩]) (.seq (.seq (.reg [⟨some 11, none, .mv (.t 5)⟩]) (.cond (.t 11) (.seq (.seq (.reg [⟨some 12, none, .mv (.t 6)⟩]) (.cond (.t 12) (.seq (.reg [⟨some 4, none, .mv (.c (.int .i64 0))⟩]) .ret) .skip)) (.seq (.reg [⟨some 4, none, .mv (.c (.int .i64 (-1)))⟩]) .ret)) .skip)) (.seq (.seq (.reg [⟨some 13, none, .mv (.t 6)⟩]) (.cond (.t 13) (.seq (.reg [⟨some 4, none, .mv (.c (.int .i64 1))⟩]) .ret) .skip)) (.seq (.seq (.reg [⟨some 14, none, .mv (.t 0)⟩, ⟨some 15, none, .mv (.t 1)⟩, ⟨some 16, none, .bin .lss (.t 14) (.t 15)⟩]) (.cond (.t 16) (.seq (.reg [⟨some 4, none, .mv (.c (.int .i64 (-1)))⟩]) .ret) .skip)) (.seq (.seq (.reg [⟨some 17, none, .mv (.t 0)⟩, ⟨some 18, none, .mv (.t 1)⟩, ⟨some 19, none, .bin .gtr (.t 17) (.t 18)⟩]) (.cond (.t 19) (.seq (.reg [⟨some 4, none, .mv (.c (.int .i64 1))⟩]) .ret) .skip)) (.seq (.reg [⟨some 4, none, .mv (.c (.int .i64 0))⟩]) .ret)))))))
theorem code_cmp_Compare_int : HasCode Try.prog fn_cmp_Compare_int mc_cmp_Compare_int [.t 4] 20 := ⟨mixed, Try.f56, _, Try.func56, rfl, by kernel_rfl, by kernel_rfl, rfl, by kernel_rfl⟩

def mc_impl_Frac_plus : MC :=
  .seq (.reg [⟨some 2, none, .box (.t 0)⟩, ⟨some 3, none, .box (.t 1)⟩, ⟨some 4, none, .new [.int .i64 0, .int .i64 0]⟩]) (.seq (.reg [⟨some 5, none, .fa (.t 2) 0⟩, ⟨some 6, none, .ld (.t 5) 1 false⟩, ⟨some 7, none, .fa (.t 3) 1⟩, ⟨some 8, none, .ld (.t 7) 1 false⟩, ⟨some 9, none, .bin .mul (.t 6) (.t 8)⟩, ⟨some 10, none, .fa (.t 3) 0⟩, ⟨some 11, none, .ld (.t 10) 1 false⟩, ⟨some 12, none, .fa (.t 2) 1⟩, ⟨some 13, none, .ld (.t 12) 1 false⟩, ⟨some 14, none, .bin .mul (.t 11) (.t 13)⟩, ⟨some 15, none, .bin .add (.t 9) (.t 14)⟩, ⟨some 16, none, .fa (.t 2) 1⟩, ⟨some 17, none, .ld (.t 16) 1 false⟩, ⟨some 18, none, .fa (.t 3) 1⟩, ⟨some 19, none, .ld (.t 18) 1 false⟩, ⟨some 20, none, .bin .mul (.t 17) (.t 19)⟩, ⟨some 21, none, .call fn_impl_lowest [.t 15, .t 20]⟩, ⟨none, none, .st (.t 4) (.t 21) 2⟩]) .ret)
theorem code_impl_Frac_plus : HasCode Try.prog fn_impl_Frac_plus mc_impl_Frac_plus [.c 4 2 true] 22 := ⟨mixed, Try.f57, _, Try.func57, rfl, by kernel_rfl, by kernel_rfl, rfl, by kernel_rfl⟩

def mc_impl_commonFactor : MC :=
  .seq (.reg [⟨some 4, none, .mv (.c (.int .i64 0))⟩]) (.seq (.block 0 (.loop (.seq (.seq (.reg [⟨some 5, none, .mv (.t 1)⟩, ⟨some 6, none, .bin .neq (.t 5) (.c (.int .i64 0))⟩]) (.cond (.t 6) .skip (.exit 0))) (.block 1 (.drq [⟨some 7, none, .mv (.t 1)⟩, ⟨some 8, none, .mv (.t 0)⟩, ⟨some 9, none, .mv (.t 1)⟩, ⟨some 10, none, .bin .rem (.t 8) (.t 9)⟩, ⟨some 0, none, .mv (.t 7)⟩, ⟨some 1, none, .mv (.t 10)⟩]))))) (.seq (.reg [⟨some 11, none, .mv (.t 0)⟩, ⟨some 12, none, .call fn_impl_apart [.t 11, .c (.int .i64 0)]⟩, ⟨some 4, none, .mv (.t 12)⟩]) .ret))
theorem code_impl_commonFactor : HasCode Try.prog fn_impl_commonFactor mc_impl_commonFactor [.t 4] 13 := ⟨mixed, Try.f58, _, Try.func58, rfl, by kernel_rfl, by kernel_rfl, rfl, by kernel_rfl⟩

def mc_spec_inRange : MC :=
  .seq (.reg [⟨some 6, none, .mv (.c (.bool false))⟩]) (.seq (.reg [⟨some 7, none, .mv (.t 1)⟩, ⟨some 8, none, .mv (.t 0)⟩, ⟨some 9, none, .bin .leq (.t 7) (.t 8)⟩, ⟨some 10, none, .mv (.t 9)⟩, ⟨some 11, some (10, true), .mv (.t 0)⟩, ⟨some 12, some (10, true), .mv (.t 2)⟩, ⟨some 13, some (10, true), .bin .leq (.t 11) (.t 12)⟩, ⟨some 14, none, .pick (.t 10) (.t 13) (.c (.bool false))⟩, ⟨some 6, none, .mv (.t 14)⟩]) .ret)
theorem code_spec_inRange : HasCode Try.prog fn_spec_inRange mc_spec_inRange [.t 6] 15 := ⟨mixed, Try.f59, _, Try.func59, rfl, by kernel_rfl, by kernel_rfl, rfl, by kernel_rfl⟩

def mc_spec_gcd : MC :=
  .seq (.reg [⟨some 4, none, .mv (.c (.int .i64 0))⟩]) (.seq (.block 0 (.loop (.seq (.seq (.reg [⟨some 6, none, .mv (.t 1)⟩, ⟨some 7, none, .bin .neq (.t 6) (.c (.int .i64 0))⟩]) (.cond (.t 7) .skip (.exit 0))) (.block 1 (.seq (.reg [⟨some 8, none, .mv (.t 0)⟩, ⟨some 9, none, .mv (.t 1)⟩, ⟨some 10, none, .bin .rem (.t 8) (.t 9)⟩, ⟨some 5, none, .mv (.t 10)⟩]) (.seq (.reg [⟨some 11, none, .mv (.t 1)⟩, ⟨some 0, none, .mv (.t 11)⟩]) (.reg [⟨some 12, none, .mv (.t 5)⟩, ⟨some 1, none, .mv (.t 12)⟩]))))))) (.seq (.reg [⟨some 13, none, .mv (.t 0)⟩, ⟨some 14, none, .mv (.t 0)⟩, ⟨some 15, none, .un .neg (.t 14)⟩, ⟨some 16, none, .mnmx true (.t 13) [.t 15]⟩, ⟨some 4, none, .mv (.t 16)⟩]) .ret))
theorem code_spec_gcd : HasCode Try.prog fn_spec_gcd mc_spec_gcd [.t 4] 17 := ⟨mixed, Try.f60, _, Try.func60, rfl, by kernel_rfl, by kernel_rfl, rfl, by kernel_rfl⟩

def mc_spec_plus : MC :=
  .seq (.reg [⟨some 2, none, .box (.t 0)⟩, ⟨some 3, none, .box (.t 1)⟩, ⟨some 4, none, .new [.int .i64 0, .int .i64 0]⟩]) (.seq (.reg [⟨some 5, none, .fa (.t 2) 0⟩, ⟨some 6, none, .ld (.t 5) 1 false⟩, ⟨some 7, none, .fa (.t 3) 1⟩, ⟨some 8, none, .ld (.t 7) 1 false⟩, ⟨some 9, none, .bin .mul (.t 6) (.t 8)⟩, ⟨some 10, none, .fa (.t 3) 0⟩, ⟨some 11, none, .ld (.t 10) 1 false⟩, ⟨some 12, none, .fa (.t 2) 1⟩, ⟨some 13, none, .ld (.t 12) 1 false⟩, ⟨some 14, none, .bin .mul (.t 11) (.t 13)⟩, ⟨some 15, none, .bin .add (.t 9) (.t 14)⟩, ⟨some 16, none, .fa (.t 2) 1⟩, ⟨some 17, none, .ld (.t 16) 1 false⟩, ⟨some 18, none, .fa (.t 3) 1⟩, ⟨some 19, none, .ld (.t 18) 1 false⟩, ⟨some 20, none, .bin .mul (.t 17) (.t 19)⟩, ⟨some 21, none, .call fn_spec_frac [.t 15, .t 20]⟩, ⟨none, none, .st (.t 4) (.t 21) 2⟩]) .ret)
theorem code_spec_plus : HasCode Try.prog fn_spec_plus mc_spec_plus [.c 4 2 true] 22 := ⟨mixed, Try.f61, _, Try.func61, rfl, by kernel_rfl, by kernel_rfl, rfl, by kernel_rfl⟩

def mc_impl_validPlace : MC :=
  .seq (.reg [⟨some 2, none, .mv (.c (.bool false))⟩]) (.seq (.reg [⟨some 3, none, .mv (.t 0)⟩, ⟨some 4, none, .bin .geq (.t 3) (.c (.int .i64 (-12)))⟩, ⟨some 5, none, .mv (.t 4)⟩, ⟨some 6, some (5, true), .mv (.t 0)⟩, ⟨some 7, some (5, true), .bin .leq (.t 6) (.c (.int .i64 12))⟩, ⟨some 8, none, .pick (.t 5) (.t 7) (.c (.bool false))⟩, ⟨some 2, none, .mv (.t 8)⟩]) .ret)
theorem code_impl_validPlace : HasCode Try.prog fn_impl_validPlace mc_impl_validPlace [.t 2] 9 := ⟨mixed, Try.f62, _, Try.func62, rfl, by kernel_rfl, by kernel_rfl, rfl, by kernel_rfl⟩

def mc_cmp_isNaN_int : MC :=
  .seq (.reg [⟨some 2, none, .mv (.c (.bool false))⟩]) (.seq (.reg [⟨some 3, none, .mv (.t 0)⟩, ⟨some 4, none, .mv (.t 0)⟩, ⟨some 5, none, .bin .neq (.t 3) (.t 4)⟩, ⟨some 2, none, .mv (.t 5)⟩]) .ret)
theorem code_cmp_isNaN_int : HasCode Try.prog fn_cmp_isNaN_int mc_cmp_isNaN_int [.t 2] 6 := ⟨mixed, Try.f73, _, Try.func73, rfl, by kernel_rfl, by kernel_rfl, rfl, by kernel_rfl⟩

end Go.Rx.Try
