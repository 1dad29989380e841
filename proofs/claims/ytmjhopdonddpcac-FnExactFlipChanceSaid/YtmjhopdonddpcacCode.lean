/-
  The code of each function of the program, taken up. Made by a program.
-/
import Derived.Test.YtmjhopdonddpcacProg
import Derived.Test.YtmjhopdonddpcacRxI
import Derived.KernelRfl
namespace Go.Rx.Try
open Go.Proofs
set_option maxRecDepth 100000

abbrev fn_laws_FnExactFlipChance : FuncId := 3
abbrev fn_laws_FnExactSignedRanks : FuncId := 4
abbrev fn_laws_FnExactRankSums : FuncId := 5
abbrev fn_laws_FnExactRunCount : FuncId := 6
abbrev fn_spec_FlipChance : FuncId := 7
abbrev fn_laws_toIntS : FuncId := 8
abbrev fn_impl_FlipChance : FuncId := 9
abbrev fn_laws_eqIntS : FuncId := 10
abbrev fn_spec_SignedRanks : FuncId := 11
abbrev fn_impl_SignedRanks : FuncId := 12
abbrev fn_spec_RankSums : FuncId := 13
abbrev fn_impl_RankSums : FuncId := 14
abbrev fn_laws_markIntS : FuncId := 15
abbrev fn_laws_heldIntS : FuncId := 16
abbrev fn_spec_RunCount : FuncId := 17
abbrev fn_impl_RunCount : FuncId := 18
abbrev fn_spec_validData : FuncId := 19
abbrev fn_spec_flips : FuncId := 20
abbrev fn_spec_sum : FuncId := 21
abbrev fn_spec_power : FuncId := 22
abbrev fn_impl_ValidData : FuncId := 23
abbrev fn_impl_firstPlaces : FuncId := 24
abbrev fn_impl_sumAt : FuncId := 25
abbrev fn_spec_ranks : FuncId := 26
abbrev fn_impl_twiceRanks : FuncId := 27
abbrev fn_spec_inRange : FuncId := 28
abbrev fn_spec_rankSums : FuncId := 29
abbrev fn_spec_choose : FuncId := 30
abbrev fn_impl_splits : FuncId := 31
abbrev fn_impl_places_has : FuncId := 32
abbrev fn_impl_splits_1 : FuncId := 33
abbrev fn_math_bits_OnesCount : FuncId := 34
abbrev fn_math_bits_OnesCount32 : FuncId := 35
abbrev fn_math_bits_OnesCount64 : FuncId := 36
abbrev fn_runtime_boundsError_Error : FuncId := 37
abbrev fn_runtime_boundsError_RuntimeError : FuncId := 38
abbrev fn_runtime_errorString_Error : FuncId := 39
abbrev fn_runtime_errorString_RuntimeError : FuncId := 40
abbrev fn_runtime_plainError_Error : FuncId := 41
abbrev fn_runtime_plainError_RuntimeError : FuncId := 42
abbrev fn_runtime_errorAddressString_Error : FuncId := 43
abbrev fn_runtime_errorAddressString_RuntimeError : FuncId := 44
abbrev fn_runtime_TypeAssertionError_Error : FuncId := 45
abbrev fn_runtime_TypeAssertionError_RuntimeError : FuncId := 46
abbrev fn_runtime_PanicNilError_Error : FuncId := 47
abbrev fn_runtime_PanicNilError_RuntimeError : FuncId := 48
abbrev fn_internal_abi_Type_Align : FuncId := 49
abbrev fn_internal_runtime_maps_unhashableTypeError_Error : FuncId := 50
abbrev fn_internal_runtime_maps_unhashableTypeError_RuntimeError : FuncId := 51
abbrev fn_internal_abi_Kind_String : FuncId := 52
theorem mixed : Try.prog.follows .mixedOrders = true := by kernel_rfl

def mc_laws_FnExactFlipChance : MC :=
  .seq (.reg [⟨some 2, none, .mv (.c (.bool false))⟩]) (.seq (.seq (.reg [⟨some 8, none, .mv (.t 0)⟩, ⟨some 9, none, .len (.t 8)⟩, ⟨some 10, none, .bin .gtr (.t 9) (.c (.int .i64 1048576))⟩]) (.cond (.t 10) (.seq (.reg [⟨some 2, none, .mv (.c (.bool true))⟩]) .ret) .skip)) (.seq (.reg [⟨some 12, none, .mv (.t 0)⟩, ⟨some 13, none, .call fn_laws_toIntS [.t 12]⟩, ⟨some 14, none, .call fn_spec_FlipChance [.t 13]⟩, ⟨some 11, none, .mv (.t 14)⟩, ⟨some 15, none, .ext (.t 11) 0⟩, ⟨some 16, none, .ext (.t 11) 1⟩, ⟨some 3, none, .mv (.t 15)⟩, ⟨some 4, none, .mv (.t 16)⟩]) (.seq (.reg [⟨some 17, none, .mv (.t 0)⟩, ⟨some 18, none, .call fn_laws_toIntS [.t 17]⟩, ⟨some 5, none, .mv (.t 18)⟩]) (.seq (.reg [⟨some 20, none, .mv (.t 5)⟩, ⟨some 21, none, .call fn_impl_FlipChance [.t 20]⟩, ⟨some 19, none, .mv (.t 21)⟩, ⟨some 22, none, .ext (.t 19) 0⟩, ⟨some 23, none, .ext (.t 19) 1⟩, ⟨some 6, none, .mv (.t 22)⟩, ⟨some 7, none, .mv (.t 23)⟩]) (.seq (.seq (.reg [⟨some 24, none, .mv (.t 6)⟩, ⟨some 25, none, .mv (.t 3)⟩, ⟨some 26, none, .bin .neq (.t 24) (.t 25)⟩, ⟨some 27, none, .mv (.t 26)⟩, ⟨some 28, some (27, false), .mv (.t 7)⟩, ⟨some 29, some (27, false), .mv (.t 4)⟩, ⟨some 30, some (27, false), .bin .neq (.t 28) (.t 29)⟩, ⟨some 31, none, .pick (.t 27) (.c (.bool true)) (.t 30)⟩]) (.cond (.t 31) (.seq (.reg [⟨some 2, none, .mv (.c (.bool false))⟩]) .ret) .skip)) (.seq (.seq (.reg [⟨some 32, none, .mv (.t 5)⟩, ⟨some 33, none, .mv (.t 0)⟩, ⟨some 34, none, .call fn_laws_toIntS [.t 33]⟩, ⟨some 35, none, .call fn_laws_eqIntS [.t 32, .t 34]⟩, ⟨some 36, none, .un .not (.t 35)⟩]) (.cond (.t 36) (.seq (.reg [⟨some 2, none, .mv (.c (.bool false))⟩]) .ret) .skip)) (.seq (.reg [⟨some 2, none, .mv (.c (.bool true))⟩]) .ret)))))))
theorem code_laws_FnExactFlipChance : HasCode Try.prog fn_laws_FnExactFlipChance mc_laws_FnExactFlipChance [.t 2] 37 := ⟨mixed, Try.f3, _, Try.func3, rfl, by kernel_rfl, by kernel_rfl, rfl, by kernel_rfl⟩

def mc_spec_FlipChance : MC :=
  .seq (.reg [⟨some 2, none, .mv (.c (.int .i64 0))⟩, ⟨some 3, none, .mv (.c (.int .i64 0))⟩]) (.seq (.seq (.reg [⟨some 4, none, .mv (.t 0)⟩, ⟨some 5, none, .call fn_spec_validData [.t 4]⟩, ⟨some 6, none, .un .not (.t 5)⟩]) (.cond (.t 6) (.seq (.reg [⟨some 2, none, .mv (.c (.int .i64 (-1)))⟩, ⟨some 3, none, .mv (.c (.int .i64 (-1)))⟩]) .ret) .skip)) (.seq (.reg [⟨some 7, none, .mv (.t 0)⟩, ⟨some 8, none, .mv (.t 0)⟩, ⟨some 9, none, .call fn_spec_sum [.t 8]⟩, ⟨some 10, none, .call fn_spec_flips [.t 7, .t 9]⟩, ⟨some 11, none, .mv (.t 0)⟩, ⟨some 12, none, .len (.t 11)⟩, ⟨some 13, none, .call fn_spec_power [.t 12]⟩, ⟨some 2, none, .mv (.t 10)⟩, ⟨some 3, none, .mv (.t 13)⟩]) .ret))
theorem code_spec_FlipChance : HasCode Try.prog fn_spec_FlipChance mc_spec_FlipChance [.t 2, .t 3] 14 := ⟨mixed, Try.f7, _, Try.func7, rfl, by kernel_rfl, by kernel_rfl, rfl, by kernel_rfl⟩

def mc_laws_toIntS : MC :=
  .seq (.reg [⟨some 2, none, .mv (.c .nilSlice)⟩]) (.seq (.reg [⟨some 5, none, .mv (.t 0)⟩, ⟨some 6, none, .len (.t 5)⟩, ⟨some 7, none, .mks (.t 6) (.t 6) [.int .i64 0] 1 8⟩, ⟨some 3, none, .mv (.t 7)⟩]) (.seq (.seq (.reg [⟨some 4, none, .mv (.c (.int .i64 0))⟩]) (.block 0 (.loop (.seq (.seq (.reg [⟨some 8, none, .mv (.t 4)⟩, ⟨some 9, none, .mv (.t 0)⟩, ⟨some 10, none, .len (.t 9)⟩, ⟨some 11, none, .bin .lss (.t 8) (.t 10)⟩]) (.cond (.t 11) .skip (.exit 0))) (.seq (.block 1 (.reg [⟨some 14, none, .mv (.t 3)⟩, ⟨some 15, none, .mv (.t 4)⟩, ⟨some 16, none, .mv (.t 0)⟩, ⟨some 17, none, .mv (.t 4)⟩, ⟨some 18, none, .ixa (.t 16) (.t 17) 1⟩, ⟨some 19, none, .ld (.t 18) 1 false⟩, ⟨some 20, none, .ixa (.t 14) (.t 15) 1⟩, ⟨none, none, .st (.t 20) (.t 19) 1⟩])) (.reg [⟨some 12, none, .mv (.t 4)⟩, ⟨some 13, none, .bin .add (.t 12) (.c (.int .i64 1))⟩, ⟨some 4, none, .mv (.t 13)⟩])))))) (.seq (.reg [⟨some 21, none, .mv (.t 3)⟩, ⟨some 2, none, .mv (.t 21)⟩]) .ret)))
theorem code_laws_toIntS : HasCode Try.prog fn_laws_toIntS mc_laws_toIntS [.t 2] 22 := ⟨mixed, Try.f8, _, Try.func8, rfl, by kernel_rfl, by kernel_rfl, rfl, by kernel_rfl⟩

def mc_impl_FlipChance : MC :=
  .seq (.reg [⟨some 2, none, .mv (.c (.int .i64 0))⟩, ⟨some 3, none, .mv (.c (.int .i64 0))⟩]) (.seq (.seq (.reg [⟨some 7, none, .mv (.t 0)⟩, ⟨some 8, none, .call fn_impl_ValidData [.t 7]⟩, ⟨some 9, none, .un .not (.t 8)⟩]) (.cond (.t 9) (.seq (.reg [⟨some 2, none, .mv (.c (.int .i64 (-1)))⟩, ⟨some 3, none, .mv (.c (.int .i64 (-1)))⟩]) .ret) .skip)) (.seq (.reg [⟨some 4, none, .mv (.c (.int .i64 0))⟩, ⟨some 5, none, .mv (.c (.int .i64 0))⟩]) (.seq (.seq (.reg [⟨some 10, none, .mv (.t 0)⟩, ⟨some 11, none, .len (.t 10)⟩, ⟨some 12, none, .call fn_impl_firstPlaces [.t 11]⟩, ⟨some 13, none, .bin .add (.t 12) (.c (.int .u64 1))⟩, ⟨some 14, none, .mv (.c (.int .u64 0))⟩]) (.block 0 (.loop (.seq (.reg [⟨some 15, none, .bin .lss (.t 14) (.t 13)⟩]) (.seq (.cond (.t 15) .skip (.exit 0)) (.seq (.block 1 (.seq (.reg [⟨some 16, none, .mv (.t 14)⟩, ⟨some 6, none, .mv (.t 16)⟩]) (.seq (.seq (.reg [⟨some 17, none, .mv (.t 0)⟩, ⟨some 18, none, .mv (.t 6)⟩, ⟨some 19, none, .call fn_impl_sumAt [.t 17, .t 18]⟩, ⟨some 20, none, .bin .leq (.t 19) (.c (.int .i64 0))⟩]) (.cond (.t 20) (.reg [⟨some 21, none, .mv (.t 4)⟩, ⟨some 22, none, .bin .add (.t 21) (.c (.int .i64 1))⟩, ⟨some 4, none, .mv (.t 22)⟩]) .skip)) (.reg [⟨some 23, none, .mv (.t 5)⟩, ⟨some 24, none, .bin .add (.t 23) (.c (.int .i64 1))⟩, ⟨some 5, none, .mv (.t 24)⟩])))) (.reg [⟨some 25, none, .bin .add (.t 14) (.c (.int .u64 1))⟩, ⟨some 14, none, .mv (.t 25)⟩]))))))) (.seq (.reg [⟨some 26, none, .mv (.t 4)⟩, ⟨some 27, none, .mv (.t 5)⟩, ⟨some 2, none, .mv (.t 26)⟩, ⟨some 3, none, .mv (.t 27)⟩]) .ret))))
theorem code_impl_FlipChance : HasCode Try.prog fn_impl_FlipChance mc_impl_FlipChance [.t 2, .t 3] 28 := ⟨mixed, Try.f9, _, Try.func9, rfl, by kernel_rfl, by kernel_rfl, rfl, by kernel_rfl⟩

def mc_laws_eqIntS : MC :=
  .seq (.reg [⟨some 4, none, .mv (.c (.bool false))⟩]) (.seq (.seq (.reg [⟨some 6, none, .mv (.t 0)⟩, ⟨some 7, none, .len (.t 6)⟩, ⟨some 8, none, .mv (.t 1)⟩, ⟨some 9, none, .len (.t 8)⟩, ⟨some 10, none, .bin .neq (.t 7) (.t 9)⟩]) (.cond (.t 10) (.seq (.reg [⟨some 4, none, .mv (.c (.bool false))⟩]) .ret) .skip)) (.seq (.seq (.reg [⟨some 5, none, .mv (.c (.int .i64 0))⟩]) (.block 0 (.loop (.seq (.seq (.reg [⟨some 11, none, .mv (.t 5)⟩, ⟨some 12, none, .mv (.t 0)⟩, ⟨some 13, none, .len (.t 12)⟩, ⟨some 14, none, .bin .lss (.t 11) (.t 13)⟩]) (.cond (.t 14) .skip (.exit 0))) (.seq (.block 1 (.seq (.drq [⟨some 17, none, .mv (.t 0)⟩, ⟨some 18, none, .mv (.t 5)⟩, ⟨some 19, none, .ixa (.t 17) (.t 18) 1⟩, ⟨some 20, none, .ld (.t 19) 1 false⟩, ⟨some 21, none, .mv (.t 1)⟩, ⟨some 22, none, .mv (.t 5)⟩, ⟨some 23, none, .ixa (.t 21) (.t 22) 1⟩, ⟨some 24, none, .ld (.t 23) 1 false⟩, ⟨some 25, none, .bin .neq (.t 20) (.t 24)⟩]) (.cond (.t 25) (.seq (.reg [⟨some 4, none, .mv (.c (.bool false))⟩]) .ret) .skip))) (.reg [⟨some 15, none, .mv (.t 5)⟩, ⟨some 16, none, .bin .add (.t 15) (.c (.int .i64 1))⟩, ⟨some 5, none, .mv (.t 16)⟩])))))) (.seq (.reg [⟨some 4, none, .mv (.c (.bool true))⟩]) .ret)))
theorem code_laws_eqIntS : HasCode Try.prog fn_laws_eqIntS mc_laws_eqIntS [.t 4] 26 := ⟨mixed, Try.f10, _, Try.func10, rfl, by kernel_rfl, by kernel_rfl, rfl, by kernel_rfl⟩

def mc_spec_validData : MC :=
  .seq (.reg [⟨some 2, none, .mv (.c (.bool false))⟩]) (.seq (.seq (.reg [⟨some 3, none, .mv (.c (.int .i64 0))⟩]) (.block 0 (.loop (.seq (.seq (.reg [⟨some 4, none, .mv (.t 3)⟩, ⟨some 5, none, .mv (.t 0)⟩, ⟨some 6, none, .len (.t 5)⟩, ⟨some 7, none, .bin .lss (.t 4) (.t 6)⟩]) (.cond (.t 7) .skip (.exit 0))) (.seq (.block 1 (.seq (.reg [⟨some 10, none, .mv (.t 0)⟩, ⟨some 11, none, .mv (.t 3)⟩, ⟨some 12, none, .ixa (.t 10) (.t 11) 1⟩, ⟨some 13, none, .ld (.t 12) 1 false⟩, ⟨some 14, none, .call fn_spec_inRange [.t 13, .c (.int .i64 (-200)), .c (.int .i64 200)]⟩, ⟨some 15, none, .un .not (.t 14)⟩]) (.cond (.t 15) (.seq (.reg [⟨some 2, none, .mv (.c (.bool false))⟩]) .ret) .skip))) (.reg [⟨some 8, none, .mv (.t 3)⟩, ⟨some 9, none, .bin .add (.t 8) (.c (.int .i64 1))⟩, ⟨some 3, none, .mv (.t 9)⟩])))))) (.seq (.reg [⟨some 16, none, .mv (.t 0)⟩, ⟨some 17, none, .len (.t 16)⟩, ⟨some 18, none, .bin .leq (.t 17) (.c (.int .i64 10))⟩, ⟨some 2, none, .mv (.t 18)⟩]) .ret))
theorem code_spec_validData : HasCode Try.prog fn_spec_validData mc_spec_validData [.t 2] 19 := ⟨mixed, Try.f19, _, Try.func19, rfl, by kernel_rfl, by kernel_rfl, rfl, by kernel_rfl⟩

def mc_spec_flips : MC :=
  .seq (.reg [⟨some 4, none, .mv (.c (.int .i64 0))⟩]) (.seq (.seq (.reg [⟨some 5, none, .mv (.t 0)⟩, ⟨some 6, none, .len (.t 5)⟩, ⟨some 7, none, .bin .eql (.t 6) (.c (.int .i64 0))⟩]) (.cond (.t 7) (.seq (.seq (.reg [⟨some 8, none, .mv (.t 1)⟩, ⟨some 9, none, .bin .leq (.t 8) (.c (.int .i64 0))⟩]) (.cond (.t 9) (.seq (.reg [⟨some 4, none, .mv (.c (.int .i64 1))⟩]) .ret) .skip)) (.seq (.reg [⟨some 4, none, .mv (.c (.int .i64 0))⟩]) .ret)) .skip)) (.seq (.drq [⟨some 10, none, .mv (.t 0)⟩, ⟨some 11, none, .sl (.t 10) (some (.c (.int .i64 1))) none none 1⟩, ⟨some 12, none, .mv (.t 1)⟩, ⟨some 13, none, .mv (.t 0)⟩, ⟨some 14, none, .ixa (.t 13) (.c (.int .i64 0)) 1⟩, ⟨some 15, none, .ld (.t 14) 1 false⟩, ⟨some 16, none, .bin .sub (.t 12) (.t 15)⟩, ⟨some 17, none, .call fn_spec_flips [.t 11, .t 16]⟩, ⟨some 18, none, .mv (.t 0)⟩, ⟨some 19, none, .sl (.t 18) (some (.c (.int .i64 1))) none none 1⟩, ⟨some 20, none, .mv (.t 1)⟩, ⟨some 21, none, .mv (.t 0)⟩, ⟨some 22, none, .ixa (.t 21) (.c (.int .i64 0)) 1⟩, ⟨some 23, none, .ld (.t 22) 1 false⟩, ⟨some 24, none, .bin .add (.t 20) (.t 23)⟩, ⟨some 25, none, .call fn_spec_flips [.t 19, .t 24]⟩, ⟨some 26, none, .bin .add (.t 17) (.t 25)⟩, ⟨some 4, none, .mv (.t 26)⟩]) .ret))
theorem code_spec_flips : HasCode Try.prog fn_spec_flips mc_spec_flips [.t 4] 27 := ⟨mixed, Try.f20, _, Try.func20, rfl, by kernel_rfl, by kernel_rfl, rfl, by kernel_rfl⟩

def mc_spec_sum : MC :=
  .seq (.reg [⟨some 2, none, .mv (.c (.int .i64 0))⟩]) (.seq (.reg [⟨some 3, none, .mv (.c (.int .i64 0))⟩]) (.seq (.seq (.reg [⟨some 4, none, .mv (.c (.int .i64 0))⟩]) (.block 0 (.loop (.seq (.seq (.reg [⟨some 5, none, .mv (.t 4)⟩, ⟨some 6, none, .mv (.t 0)⟩, ⟨some 7, none, .len (.t 6)⟩, ⟨some 8, none, .bin .lss (.t 5) (.t 7)⟩]) (.cond (.t 8) .skip (.exit 0))) (.seq (.block 1 (.reg [⟨some 11, none, .mv (.t 3)⟩, ⟨some 12, none, .mv (.t 0)⟩, ⟨some 13, none, .mv (.t 4)⟩, ⟨some 14, none, .ixa (.t 12) (.t 13) 1⟩, ⟨some 15, none, .ld (.t 14) 1 false⟩, ⟨some 16, none, .bin .add (.t 11) (.t 15)⟩, ⟨some 3, none, .mv (.t 16)⟩])) (.reg [⟨some 9, none, .mv (.t 4)⟩, ⟨some 10, none, .bin .add (.t 9) (.c (.int .i64 1))⟩, ⟨some 4, none, .mv (.t 10)⟩])))))) (.seq (.reg [⟨some 17, none, .mv (.t 3)⟩, ⟨some 2, none, .mv (.t 17)⟩]) .ret)))
theorem code_spec_sum : HasCode Try.prog fn_spec_sum mc_spec_sum [.t 2] 18 := ⟨mixed, Try.f21, _, Try.func21, rfl, by kernel_rfl, by kernel_rfl, rfl, by kernel_rfl⟩

def mc_spec_power : MC :=
  .seq (.reg [⟨some 2, none, .mv (.c (.int .i64 0))⟩]) (.seq (.reg [⟨some 3, none, .mv (.c (.int .i64 1))⟩]) (.seq (.block 0 (.loop (.seq (.seq (.reg [⟨some 4, none, .mv (.t 0)⟩, ⟨some 5, none, .bin .gtr (.t 4) (.c (.int .i64 0))⟩]) (.cond (.t 5) .skip (.exit 0))) (.seq (.block 1 (.reg [⟨some 8, none, .mv (.t 3)⟩, ⟨some 9, none, .bin .mul (.c (.int .i64 2)) (.t 8)⟩, ⟨some 3, none, .mv (.t 9)⟩])) (.reg [⟨some 6, none, .mv (.t 0)⟩, ⟨some 7, none, .bin .sub (.t 6) (.c (.int .i64 1))⟩, ⟨some 0, none, .mv (.t 7)⟩]))))) (.seq (.reg [⟨some 10, none, .mv (.t 3)⟩, ⟨some 2, none, .mv (.t 10)⟩]) .ret)))
theorem code_spec_power : HasCode Try.prog fn_spec_power mc_spec_power [.t 2] 11 := ⟨mixed, Try.f22, _, Try.func22, rfl, by kernel_rfl, by kernel_rfl, rfl, by kernel_rfl⟩

def mc_impl_ValidData : MC :=
  .seq (.reg [⟨some 2, none, .mv (.c (.bool false))⟩]) (.seq (.seq (.reg [⟨some 5, none, .mv (.t 0)⟩, ⟨some 6, none, .len (.t 5)⟩, ⟨some 7, none, .bin .gtr (.t 6) (.c (.int .i64 10))⟩]) (.cond (.t 7) (.seq (.reg [⟨some 2, none, .mv (.c (.bool false))⟩]) .ret) .skip)) (.seq (.seq (.reg [⟨some 8, none, .mv (.t 0)⟩, ⟨some 9, none, .len (.t 8)⟩, ⟨some 10, none, .mv (.c (.int .i64 0))⟩]) (.block 0 (.loop (.seq (.reg [⟨some 11, none, .bin .lss (.t 10) (.t 9)⟩]) (.seq (.cond (.t 11) .skip (.exit 0)) (.seq (.block 1 (.seq (.reg [⟨some 12, none, .ixa (.t 8) (.t 10) 1⟩, ⟨some 13, none, .ld (.t 12) 1 false⟩, ⟨some 4, none, .mv (.t 13)⟩]) (.seq (.reg [⟨some 14, none, .mv (.t 4)⟩, ⟨some 15, none, .bin .lss (.t 14) (.c (.int .i64 (-200)))⟩, ⟨some 16, none, .mv (.t 15)⟩, ⟨some 17, some (16, false), .mv (.t 4)⟩, ⟨some 18, some (16, false), .bin .gtr (.t 17) (.c (.int .i64 200))⟩, ⟨some 19, none, .pick (.t 16) (.c (.bool true)) (.t 18)⟩]) (.cond (.t 19) (.seq (.reg [⟨some 2, none, .mv (.c (.bool false))⟩]) .ret) .skip)))) (.reg [⟨some 20, none, .bin .add (.t 10) (.c (.int .i64 1))⟩, ⟨some 10, none, .mv (.t 20)⟩]))))))) (.seq (.reg [⟨some 2, none, .mv (.c (.bool true))⟩]) .ret)))
theorem code_impl_ValidData : HasCode Try.prog fn_impl_ValidData mc_impl_ValidData [.t 2] 21 := ⟨mixed, Try.f23, _, Try.func23, rfl, by kernel_rfl, by kernel_rfl, rfl, by kernel_rfl⟩

def mc_impl_firstPlaces : MC :=
  .seq (.reg [⟨some 2, none, .mv (.c (.int .u64 0))⟩]) (.seq (.reg [⟨some 3, none, .mv (.t 0)⟩, ⟨some 4, none, .bin .shl (.c (.int .u64 1)) (.t 3)⟩, ⟨some 5, none, .bin .sub (.t 4) (.c (.int .u64 1))⟩, ⟨some 2, none, .mv (.t 5)⟩]) .ret)
theorem code_impl_firstPlaces : HasCode Try.prog fn_impl_firstPlaces mc_impl_firstPlaces [.t 2] 6 := ⟨mixed, Try.f24, _, Try.func24, rfl, by kernel_rfl, by kernel_rfl, rfl, by kernel_rfl⟩

def mc_impl_sumAt : MC :=
  .seq (.reg [⟨some 4, none, .mv (.c (.int .i64 0))⟩]) (.seq (.reg [⟨some 5, none, .mv (.c (.int .i64 0))⟩]) (.seq (.seq (.reg [⟨some 8, none, .mv (.t 0)⟩, ⟨some 9, none, .len (.t 8)⟩, ⟨some 10, none, .mv (.c (.int .i64 0))⟩]) (.block 0 (.loop (.seq (.reg [⟨some 11, none, .bin .lss (.t 10) (.t 9)⟩]) (.seq (.cond (.t 11) .skip (.exit 0)) (.seq (.block 1 (.seq (.reg [⟨some 12, none, .mv (.t 10)⟩, ⟨some 13, none, .ixa (.t 8) (.t 10) 1⟩, ⟨some 14, none, .ld (.t 13) 1 false⟩, ⟨some 6, none, .mv (.t 12)⟩, ⟨some 7, none, .mv (.t 14)⟩]) (.seq (.reg [⟨some 15, none, .mv (.t 1)⟩, ⟨some 16, none, .mv (.t 6)⟩, ⟨some 17, none, .call fn_impl_places_has [.t 15, .t 16]⟩]) (.cond (.t 17) (.reg [⟨some 18, none, .mv (.t 5)⟩, ⟨some 19, none, .mv (.t 7)⟩, ⟨some 20, none, .bin .add (.t 18) (.t 19)⟩, ⟨some 5, none, .mv (.t 20)⟩]) .skip)))) (.reg [⟨some 21, none, .bin .add (.t 10) (.c (.int .i64 1))⟩, ⟨some 10, none, .mv (.t 21)⟩]))))))) (.seq (.reg [⟨some 22, none, .mv (.t 5)⟩, ⟨some 4, none, .mv (.t 22)⟩]) .ret)))
theorem code_impl_sumAt : HasCode Try.prog fn_impl_sumAt mc_impl_sumAt [.t 4] 23 := ⟨mixed, Try.f25, _, Try.func25, rfl, by kernel_rfl, by kernel_rfl, rfl, by kernel_rfl⟩

def mc_spec_inRange : MC :=
  .seq (.reg [⟨some 6, none, .mv (.c (.bool false))⟩]) (.seq (.reg [⟨some 7, none, .mv (.t 1)⟩, ⟨some 8, none, .mv (.t 0)⟩, ⟨some 9, none, .bin .leq (.t 7) (.t 8)⟩, ⟨some 10, none, .mv (.t 9)⟩, ⟨some 11, some (10, true), .mv (.t 0)⟩, ⟨some 12, some (10, true), .mv (.t 2)⟩, ⟨some 13, some (10, true), .bin .leq (.t 11) (.t 12)⟩, ⟨some 14, none, .pick (.t 10) (.t 13) (.c (.bool false))⟩, ⟨some 6, none, .mv (.t 14)⟩]) .ret)
theorem code_spec_inRange : HasCode Try.prog fn_spec_inRange mc_spec_inRange [.t 6] 15 := ⟨mixed, Try.f28, _, Try.func28, rfl, by kernel_rfl, by kernel_rfl, rfl, by kernel_rfl⟩

def mc_impl_places_has : MC :=
  .seq (.reg [⟨some 4, none, .mv (.c (.bool false))⟩]) (.seq (.reg [⟨some 5, none, .mv (.t 0)⟩, ⟨some 6, none, .mv (.t 1)⟩, ⟨some 7, none, .bin .shr (.t 5) (.t 6)⟩, ⟨some 8, none, .bin .and (.t 7) (.c (.int .u64 1))⟩, ⟨some 9, none, .bin .eql (.t 8) (.c (.int .u64 1))⟩, ⟨some 4, none, .mv (.t 9)⟩]) .ret)
theorem code_impl_places_has : HasCode Try.prog fn_impl_places_has mc_impl_places_has [.t 4] 10 := ⟨mixed, Try.f32, _, Try.func32, rfl, by kernel_rfl, by kernel_rfl, rfl, by kernel_rfl⟩

end Go.Rx.Try
