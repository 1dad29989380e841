/-
  The code of each function of the program, taken up. Made by a program.
-/
import Derived.Test.YtmjhopdonddpcacProg
import Derived.Test.YtmjhopdonddpcacRxI
import Derived.KernelRfl
namespace Go.Rx.Try
open Go.Proofs
set_option maxRecDepth 100000

abbrev fn_laws_FnExactFlipChance : FuncId := 3
abbrev fn_laws_FnExactSignedRanks : FuncId := 4
abbrev fn_laws_FnExactRankSums : FuncId := 5
abbrev fn_laws_FnExactRunCount : FuncId := 6
abbrev fn_spec_FlipChance : FuncId := 7
abbrev fn_laws_toIntS : FuncId := 8
abbrev fn_impl_FlipChance : FuncId := 9
abbrev fn_laws_eqIntS : FuncId := 10
abbrev fn_spec_SignedRanks : FuncId := 11
abbrev fn_impl_SignedRanks : FuncId := 12
abbrev fn_spec_RankSums : FuncId := 13
abbrev fn_impl_RankSums : FuncId := 14
abbrev fn_laws_markIntS : FuncId := 15
abbrev fn_laws_heldIntS : FuncId := 16
abbrev fn_spec_RunCount : FuncId := 17
abbrev fn_impl_RunCount : FuncId := 18
abbrev fn_spec_validData : FuncId := 19
abbrev fn_spec_flips : FuncId := 20
abbrev fn_spec_sum : FuncId := 21
abbrev fn_spec_power : FuncId := 22
abbrev fn_impl_ValidData : FuncId := 23
abbrev fn_impl_firstPlaces : FuncId := 24
abbrev fn_impl_sumAt : FuncId := 25
abbrev fn_spec_ranks : FuncId := 26
abbrev fn_impl_twiceRanks : FuncId := 27
abbrev fn_spec_inRange : FuncId := 28
abbrev fn_spec_rankSums : FuncId := 29
abbrev fn_spec_choose : FuncId := 30
abbrev fn_impl_splits : FuncId := 31
abbrev fn_impl_places_has : FuncId := 32
abbrev fn_impl_splits_1 : FuncId := 33
abbrev fn_math_bits_OnesCount : FuncId := 34
abbrev fn_math_bits_OnesCount32 : FuncId := 35
abbrev fn_math_bits_OnesCount64 : FuncId := 36
abbrev fn_runtime_boundsError_Error : FuncId := 37
abbrev fn_runtime_boundsError_RuntimeError : FuncId := 38
abbrev fn_runtime_errorString_Error : FuncId := 39
abbrev fn_runtime_errorString_RuntimeError : FuncId := 40
abbrev fn_runtime_plainError_Error : FuncId := 41
abbrev fn_runtime_plainError_RuntimeError : FuncId := 42
abbrev fn_runtime_errorAddressString_Error : FuncId := 43
abbrev fn_runtime_errorAddressString_RuntimeError : FuncId := 44
abbrev fn_runtime_TypeAssertionError_Error : FuncId := 45
abbrev fn_runtime_TypeAssertionError_RuntimeError : FuncId := 46
abbrev fn_runtime_PanicNilError_Error : FuncId := 47
abbrev fn_runtime_PanicNilError_RuntimeError : FuncId := 48
abbrev fn_internal_abi_Type_Align : FuncId := 49
abbrev fn_internal_runtime_maps_unhashableTypeError_Error : FuncId := 50
abbrev fn_internal_runtime_maps_unhashableTypeError_RuntimeError : FuncId := 51
abbrev fn_internal_abi_Kind_String : FuncId := 52
theorem mixed : Try.prog.follows .mixedOrders = true := by kernel_rfl

def mc_laws_FnExactRankSums : MC :=
  .seq (.reg [⟨some 2, none, .mv (.c (.bool false))⟩]) (.seq (.reg [⟨some 8, none, .mv (.t 0)⟩, ⟨some 9, none, .call fn_spec_RankSums [.t 8]⟩, ⟨some 3, none, .mv (.t 9)⟩]) (.seq (.reg [⟨some 10, none, .mv (.t 0)⟩, ⟨some 11, none, .call fn_impl_RankSums [.t 10]⟩, ⟨some 4, none, .mv (.t 11)⟩]) (.seq (.seq (.reg [⟨some 12, none, .mv (.t 4)⟩, ⟨some 13, none, .mv (.t 3)⟩, ⟨some 14, none, .call fn_laws_eqIntS [.t 12, .t 13]⟩, ⟨some 15, none, .un .not (.t 14)⟩]) (.cond (.t 15) (.seq (.reg [⟨some 2, none, .mv (.c (.bool false))⟩]) .ret) .skip)) (.seq (.reg [⟨some 5, none, .mv (.c (.int .i64 1))⟩]) (.seq (.reg [⟨some 16, none, .mv (.t 4)⟩, ⟨some 17, none, .mv (.t 5)⟩, ⟨some 18, none, .call fn_laws_markIntS [.t 16, .t 17]⟩, ⟨some 5, none, .mv (.t 18)⟩]) (.seq (.reg [⟨some 6, none, .mv (.c (.int .i64 1))⟩]) (.seq (.reg [⟨some 19, none, .mv (.t 4)⟩, ⟨some 20, none, .mv (.t 6)⟩, ⟨some 21, none, .call fn_laws_heldIntS [.t 19, .t 20]⟩, ⟨some 6, none, .mv (.t 21)⟩]) (.seq (.seq (.reg [⟨some 22, none, .mv (.t 6)⟩, ⟨some 23, none, .bin .lss (.t 22) (.c (.int .i64 0))⟩]) (.cond (.t 23) (.seq (.reg [⟨some 2, none, .mv (.c (.bool false))⟩]) .ret) .skip)) (.seq (.seq (.reg [⟨some 24, none, .mv (.t 6)⟩, ⟨some 25, none, .mv (.t 5)⟩, ⟨some 26, none, .bin .neq (.t 24) (.t 25)⟩]) (.cond (.t 26) (.seq (.reg [⟨some 2, none, .mv (.c (.bool false))⟩]) .ret) .skip)) (.seq (.reg [⟨some 27, none, .mv (.t 0)⟩, ⟨some 28, none, .call fn_impl_RankSums [.t 27]⟩, ⟨some 7, none, .mv (.t 28)⟩]) (.seq (.seq (.reg [⟨some 29, none, .mv (.t 7)⟩, ⟨some 30, none, .mv (.t 3)⟩, ⟨some 31, none, .call fn_laws_eqIntS [.t 29, .t 30]⟩, ⟨some 32, none, .un .not (.t 31)⟩]) (.cond (.t 32) (.seq (.reg [⟨some 2, none, .mv (.c (.bool false))⟩]) .ret) .skip)) (.seq (.reg [⟨some 6, none, .mv (.c (.int .i64 1))⟩]) (.seq (.reg [⟨some 33, none, .mv (.t 4)⟩, ⟨some 34, none, .mv (.t 6)⟩, ⟨some 35, none, .call fn_laws_heldIntS [.t 33, .t 34]⟩, ⟨some 6, none, .mv (.t 35)⟩]) (.seq (.seq (.reg [⟨some 36, none, .mv (.t 6)⟩, ⟨some 37, none, .bin .lss (.t 36) (.c (.int .i64 0))⟩]) (.cond (.t 37) (.seq (.reg [⟨some 2, none, .mv (.c (.bool false))⟩]) .ret) .skip)) (.seq (.seq (.reg [⟨some 38, none, .mv (.t 6)⟩, ⟨some 39, none, .mv (.t 5)⟩, ⟨some 40, none, .bin .neq (.t 38) (.t 39)⟩]) (.cond (.t 40) (.seq (.reg [⟨some 2, none, .mv (.c (.bool false))⟩]) .ret) .skip)) (.seq (.reg [⟨some 2, none, .mv (.c (.bool true))⟩]) .ret))))))))))))))))
theorem code_laws_FnExactRankSums : HasCode Try.prog fn_laws_FnExactRankSums mc_laws_FnExactRankSums [.t 2] 41 := ⟨mixed, Try.f5, _, Try.func5, rfl, by kernel_rfl, by kernel_rfl, rfl, by kernel_rfl⟩

def mc_laws_eqIntS : MC :=
  .seq (.reg [⟨some 4, none, .mv (.c (.bool false))⟩]) (.seq (.seq (.reg [⟨some 6, none, .mv (.t 0)⟩, ⟨some 7, none, .len (.t 6)⟩, ⟨some 8, none, .mv (.t 1)⟩, ⟨some 9, none, .len (.t 8)⟩, ⟨some 10, none, .bin .neq (.t 7) (.t 9)⟩]) (.cond (.t 10) (.seq (.reg [⟨some 4, none, .mv (.c (.bool false))⟩]) .ret) .skip)) (.seq (.seq (.reg [⟨some 5, none, .mv (.c (.int .i64 0))⟩]) (.block 0 (.loop (.seq (.seq (.reg [⟨some 11, none, .mv (.t 5)⟩, ⟨some 12, none, .mv (.t 0)⟩, ⟨some 13, none, .len (.t 12)⟩, ⟨some 14, none, .bin .lss (.t 11) (.t 13)⟩]) (.cond (.t 14) .skip (.exit 0))) (.seq (.block 1 (.seq (.drq [⟨some 17, none, .mv (.t 0)⟩, ⟨some 18, none, .mv (.t 5)⟩, ⟨some 19, none, .ixa (.t 17) (.t 18) 1⟩, ⟨some 20, none, .ld (.t 19) 1 false⟩, ⟨some 21, none, .mv (.t 1)⟩, ⟨some 22, none, .mv (.t 5)⟩, ⟨some 23, none, .ixa (.t 21) (.t 22) 1⟩, ⟨some 24, none, .ld (.t 23) 1 false⟩, ⟨some 25, none, .bin .neq (.t 20) (.t 24)⟩]) (.cond (.t 25) (.seq (.reg [⟨some 4, none, .mv (.c (.bool false))⟩]) .ret) .skip))) (.reg [⟨some 15, none, .mv (.t 5)⟩, ⟨some 16, none, .bin .add (.t 15) (.c (.int .i64 1))⟩, ⟨some 5, none, .mv (.t 16)⟩])))))) (.seq (.reg [⟨some 4, none, .mv (.c (.bool true))⟩]) .ret)))
theorem code_laws_eqIntS : HasCode Try.prog fn_laws_eqIntS mc_laws_eqIntS [.t 4] 26 := ⟨mixed, Try.f10, _, Try.func10, rfl, by kernel_rfl, by kernel_rfl, rfl, by kernel_rfl⟩

def mc_spec_RankSums : MC :=
  .seq (.reg [⟨some 2, none, .mv (.c .nilSlice)⟩]) (.seq (.seq (.reg [⟨some 3, none, .mv (.t 0)⟩, ⟨some 4, none, .call fn_spec_inRange [.t 3, .c (.int .i64 0), .c (.int .i64 10)]⟩, ⟨some 5, none, .un .not (.t 4)⟩]) (.cond (.t 5) (.seq (.reg [⟨some 2, none, .mv (.c .nilSlice)⟩]) .ret) .skip)) (.seq (.reg [⟨some 6, none, .mv (.t 0)⟩, ⟨some 7, none, .call fn_spec_rankSums [.t 6]⟩, ⟨some 2, none, .mv (.t 7)⟩]) .ret))
theorem code_spec_RankSums : HasCode Try.prog fn_spec_RankSums mc_spec_RankSums [.t 2] 8 := ⟨mixed, Try.f13, _, Try.func13, rfl, by kernel_rfl, by kernel_rfl, rfl, by kernel_rfl⟩

def mc_impl_RankSums : MC :=
  .seq (.reg [⟨some 2, none, .mv (.c .nilSlice)⟩]) (.seq (.seq (.reg [⟨some 6, none, .mv (.t 0)⟩, ⟨some 7, none, .bin .lss (.t 6) (.c (.int .i64 0))⟩, ⟨some 8, none, .mv (.t 7)⟩, ⟨some 9, some (8, false), .mv (.t 0)⟩, ⟨some 10, some (8, false), .bin .gtr (.t 9) (.c (.int .i64 10))⟩, ⟨some 11, none, .pick (.t 8) (.c (.bool true)) (.t 10)⟩]) (.cond (.t 11) (.seq (.reg [⟨some 2, none, .mv (.c .nilSlice)⟩]) .ret) .skip)) (.seq (.reg [⟨some 12, none, .mv (.t 0)⟩, ⟨some 13, none, .mv (.t 0)⟩, ⟨some 14, none, .bin .add (.t 13) (.c (.int .i64 1))⟩, ⟨some 15, none, .bin .mul (.t 12) (.t 14)⟩, ⟨some 16, none, .bin .quo (.t 15) (.c (.int .i64 2))⟩, ⟨some 17, none, .bin .add (.t 16) (.c (.int .i64 1))⟩, ⟨some 18, none, .mks (.t 17) (.t 17) [.int .i64 0] 1 8⟩, ⟨some 3, none, .mv (.t 18)⟩]) (.seq (.reg [⟨some 19, none, .mv (.t 3)⟩, ⟨some 20, none, .ixa (.t 19) (.c (.int .i64 0)) 1⟩, ⟨none, none, .st (.t 20) (.c (.int .i64 1)) 1⟩]) (.seq (.seq (.reg [⟨some 4, none, .mv (.c (.int .i64 1))⟩]) (.block 0 (.loop (.seq (.seq (.reg [⟨some 21, none, .mv (.t 4)⟩, ⟨some 22, none, .mv (.t 0)⟩, ⟨some 23, none, .bin .leq (.t 21) (.t 22)⟩]) (.cond (.t 23) .skip (.exit 0))) (.seq (.block 1 (.seq (.reg [⟨some 26, none, .mv (.t 3)⟩, ⟨some 27, none, .len (.t 26)⟩, ⟨some 28, none, .bin .sub (.t 27) (.c (.int .i64 1))⟩, ⟨some 5, none, .mv (.t 28)⟩]) (.block 2 (.loop (.seq (.seq (.reg [⟨some 29, none, .mv (.t 5)⟩, ⟨some 30, none, .mv (.t 4)⟩, ⟨some 31, none, .bin .geq (.t 29) (.t 30)⟩]) (.cond (.t 31) .skip (.exit 2))) (.seq (.block 3 (.drw [⟨some 34, none, .mv (.t 3)⟩, ⟨some 35, none, .mv (.t 5)⟩, ⟨some 36, none, .ixa (.t 34) (.t 35) 1⟩, ⟨some 37, none, .ld (.t 36) 1 false⟩, ⟨some 38, none, .mv (.t 3)⟩, ⟨some 39, none, .mv (.t 5)⟩, ⟨some 40, none, .mv (.t 4)⟩, ⟨some 41, none, .bin .sub (.t 39) (.t 40)⟩, ⟨some 42, none, .ixa (.t 38) (.t 41) 1⟩, ⟨some 43, none, .ld (.t 42) 1 false⟩, ⟨some 44, none, .bin .add (.t 37) (.t 43)⟩, ⟨some 45, none, .ixa (.t 34) (.t 35) 1⟩, ⟨none, none, .st (.t 45) (.t 44) 1⟩] [])) (.reg [⟨some 32, none, .mv (.t 5)⟩, ⟨some 33, none, .bin .sub (.t 32) (.c (.int .i64 1))⟩, ⟨some 5, none, .mv (.t 33)⟩]))))))) (.reg [⟨some 24, none, .mv (.t 4)⟩, ⟨some 25, none, .bin .add (.t 24) (.c (.int .i64 1))⟩, ⟨some 4, none, .mv (.t 25)⟩])))))) (.seq (.reg [⟨some 46, none, .mv (.t 3)⟩, ⟨some 2, none, .mv (.t 46)⟩]) .ret)))))
theorem code_impl_RankSums : HasCode Try.prog fn_impl_RankSums mc_impl_RankSums [.t 2] 47 := ⟨mixed, Try.f14, _, Try.func14, rfl, by kernel_rfl, by kernel_rfl, rfl, by kernel_rfl⟩

def mc_laws_markIntS : MC :=
  .seq (.reg [⟨some 4, none, .mv (.c (.int .i64 0))⟩]) (.seq (.seq (.reg [⟨some 5, none, .mv (.c (.int .i64 0))⟩]) (.block 0 (.loop (.seq (.seq (.reg [⟨some 6, none, .mv (.t 5)⟩, ⟨some 7, none, .mv (.t 0)⟩, ⟨some 8, none, .len (.t 7)⟩, ⟨some 9, none, .bin .lss (.t 6) (.t 8)⟩]) (.cond (.t 9) .skip (.exit 0))) (.seq (.block 1 (.seq (.reg [⟨some 12, none, .mv (.t 0)⟩, ⟨some 13, none, .mv (.t 5)⟩, ⟨some 14, none, .mv (.t 1)⟩, ⟨some 15, none, .ixa (.t 12) (.t 13) 1⟩, ⟨none, none, .st (.t 15) (.t 14) 1⟩]) (.reg [⟨some 16, none, .mv (.t 1)⟩, ⟨some 17, none, .bin .add (.t 16) (.c (.int .i64 1))⟩, ⟨some 1, none, .mv (.t 17)⟩]))) (.reg [⟨some 10, none, .mv (.t 5)⟩, ⟨some 11, none, .bin .add (.t 10) (.c (.int .i64 1))⟩, ⟨some 5, none, .mv (.t 11)⟩])))))) (.seq (.reg [⟨some 18, none, .mv (.t 1)⟩, ⟨some 4, none, .mv (.t 18)⟩]) .ret))
theorem code_laws_markIntS : HasCode Try.prog fn_laws_markIntS mc_laws_markIntS [.t 4] 19 := ⟨mixed, Try.f15, _, Try.func15, rfl, by kernel_rfl, by kernel_rfl, rfl, by kernel_rfl⟩

def mc_laws_heldIntS : MC :=
  .seq (.reg [⟨some 4, none, .mv (.c (.int .i64 0))⟩]) (.seq (.seq (.reg [⟨some 5, none, .mv (.c (.int .i64 0))⟩]) (.block 0 (.loop (.seq (.seq (.reg [⟨some 6, none, .mv (.t 5)⟩, ⟨some 7, none, .mv (.t 0)⟩, ⟨some 8, none, .len (.t 7)⟩, ⟨some 9, none, .bin .lss (.t 6) (.t 8)⟩]) (.cond (.t 9) .skip (.exit 0))) (.seq (.block 1 (.seq (.seq (.reg [⟨some 12, none, .mv (.t 0)⟩, ⟨some 13, none, .mv (.t 5)⟩, ⟨some 14, none, .ixa (.t 12) (.t 13) 1⟩, ⟨some 15, none, .ld (.t 14) 1 false⟩, ⟨some 16, none, .mv (.t 1)⟩, ⟨some 17, none, .bin .neq (.t 15) (.t 16)⟩]) (.cond (.t 17) (.seq (.reg [⟨some 4, none, .mv (.c (.int .i64 (-1)))⟩]) .ret) .skip)) (.reg [⟨some 18, none, .mv (.t 1)⟩, ⟨some 19, none, .bin .add (.t 18) (.c (.int .i64 1))⟩, ⟨some 1, none, .mv (.t 19)⟩]))) (.reg [⟨some 10, none, .mv (.t 5)⟩, ⟨some 11, none, .bin .add (.t 10) (.c (.int .i64 1))⟩, ⟨some 5, none, .mv (.t 11)⟩])))))) (.seq (.reg [⟨some 20, none, .mv (.t 1)⟩, ⟨some 4, none, .mv (.t 20)⟩]) .ret))
theorem code_laws_heldIntS : HasCode Try.prog fn_laws_heldIntS mc_laws_heldIntS [.t 4] 21 := ⟨mixed, Try.f16, _, Try.func16, rfl, by kernel_rfl, by kernel_rfl, rfl, by kernel_rfl⟩

def mc_spec_inRange : MC :=
  .seq (.reg [⟨some 6, none, .mv (.c (.bool false))⟩]) (.seq (.reg [⟨some 7, none, .mv (.t 1)⟩, ⟨some 8, none, .mv (.t 0)⟩, ⟨some 9, none, .bin .leq (.t 7) (.t 8)⟩, ⟨some 10, none, .mv (.t 9)⟩, ⟨some 11, some (10, true), .mv (.t 0)⟩, ⟨some 12, some (10, true), .mv (.t 2)⟩, ⟨some 13, some (10, true), .bin .leq (.t 11) (.t 12)⟩, ⟨some 14, none, .pick (.t 10) (.t 13) (.c (.bool false))⟩, ⟨some 6, none, .mv (.t 14)⟩]) .ret)
theorem code_spec_inRange : HasCode Try.prog fn_spec_inRange mc_spec_inRange [.t 6] 15 := ⟨mixed, Try.f28, _, Try.func28, rfl, by kernel_rfl, by kernel_rfl, rfl, by kernel_rfl⟩

def mc_spec_rankSums : MC :=
  .seq (.reg [⟨some 2, none, .mv (.c .nilSlice)⟩]) (.seq (.reg [⟨some 7, none, .bsl 1 1 [.int .i64 0] [(0, .c (.int .i64 1))]⟩, ⟨some 3, none, .mv (.t 7)⟩]) (.seq (.seq (.reg [⟨some 4, none, .mv (.c (.int .i64 1))⟩]) (.block 0 (.loop (.seq (.seq (.reg [⟨some 8, none, .mv (.t 4)⟩, ⟨some 9, none, .mv (.t 0)⟩, ⟨some 10, none, .bin .leq (.t 8) (.t 9)⟩]) (.cond (.t 10) .skip (.exit 0))) (.seq (.block 1 (.seq (.reg [⟨some 13, none, .mv (.t 3)⟩, ⟨some 14, none, .len (.t 13)⟩, ⟨some 15, none, .mv (.t 4)⟩, ⟨some 16, none, .bin .add (.t 14) (.t 15)⟩, ⟨some 17, none, .mks (.t 16) (.t 16) [.int .i64 0] 1 8⟩, ⟨some 5, none, .mv (.t 17)⟩]) (.seq (.seq (.reg [⟨some 6, none, .mv (.c (.int .i64 0))⟩]) (.block 2 (.loop (.seq (.seq (.reg [⟨some 18, none, .mv (.t 6)⟩, ⟨some 19, none, .mv (.t 3)⟩, ⟨some 20, none, .len (.t 19)⟩, ⟨some 21, none, .bin .lss (.t 18) (.t 20)⟩]) (.cond (.t 21) .skip (.exit 2))) (.seq (.block 3 (.seq (.drw [⟨some 24, none, .mv (.t 5)⟩, ⟨some 25, none, .mv (.t 6)⟩, ⟨some 26, none, .mv (.t 5)⟩, ⟨some 27, none, .mv (.t 6)⟩, ⟨some 28, none, .ixa (.t 26) (.t 27) 1⟩, ⟨some 29, none, .ld (.t 28) 1 false⟩, ⟨some 30, none, .mv (.t 3)⟩, ⟨some 31, none, .mv (.t 6)⟩, ⟨some 32, none, .ixa (.t 30) (.t 31) 1⟩, ⟨some 33, none, .ld (.t 32) 1 false⟩, ⟨some 34, none, .bin .add (.t 29) (.t 33)⟩, ⟨some 35, none, .ixa (.t 24) (.t 25) 1⟩, ⟨none, none, .st (.t 35) (.t 34) 1⟩] []) (.drw [⟨some 36, none, .mv (.t 5)⟩, ⟨some 37, none, .mv (.t 6)⟩, ⟨some 38, none, .mv (.t 4)⟩, ⟨some 39, none, .bin .add (.t 37) (.t 38)⟩, ⟨some 40, none, .mv (.t 5)⟩, ⟨some 41, none, .mv (.t 6)⟩, ⟨some 42, none, .mv (.t 4)⟩, ⟨some 43, none, .bin .add (.t 41) (.t 42)⟩, ⟨some 44, none, .ixa (.t 40) (.t 43) 1⟩, ⟨some 45, none, .ld (.t 44) 1 false⟩, ⟨some 46, none, .mv (.t 3)⟩, ⟨some 47, none, .mv (.t 6)⟩, ⟨some 48, none, .ixa (.t 46) (.t 47) 1⟩, ⟨some 49, none, .ld (.t 48) 1 false⟩, ⟨some 50, none, .bin .add (.t 45) (.t 49)⟩, ⟨some 51, none, .ixa (.t 36) (.t 39) 1⟩, ⟨none, none, .st (.t 51) (.t 50) 1⟩] []))) (.reg [⟨some 22, none, .mv (.t 6)⟩, ⟨some 23, none, .bin .add (.t 22) (.c (.int .i64 1))⟩, ⟨some 6, none, .mv (.t 23)⟩])))))) (.reg [⟨some 52, none, .mv (.t 5)⟩, ⟨some 3, none, .mv (.t 52)⟩])))) (.reg [⟨some 11, none, .mv (.t 4)⟩, ⟨some 12, none, .bin .add (.t 11) (.c (.int .i64 1))⟩, ⟨some 4, none, .mv (.t 12)⟩])))))) (.seq (.reg [⟨some 53, none, .mv (.t 3)⟩, ⟨some 2, none, .mv (.t 53)⟩]) .ret)))
theorem code_spec_rankSums : HasCode Try.prog fn_spec_rankSums mc_spec_rankSums [.t 2] 54 := ⟨mixed, Try.f29, _, Try.func29, rfl, by kernel_rfl, by kernel_rfl, rfl, by kernel_rfl⟩

end Go.Rx.Try
