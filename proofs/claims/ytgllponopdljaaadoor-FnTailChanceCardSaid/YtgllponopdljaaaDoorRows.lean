/-
  NARROWER THAN 'FOR EVERY INPUT', by the rows' own cells (each row's printed sentence says how): FnTailChance: laid · FnLowBound: laid · FnHighBound: laid · FnTwoSides: laid · FnMiddlePlaces: laid · FnExactTailChance: laid · FnExactLowBound: laid · FnExactHighBound: laid · FnExactTwoSides: laid · FnExactMiddlePlaces: laid.
  DERIVED. THE GIVEN ROWS OF THIS SEAT. 10 by the template 'for every input the law returns true; each argument reads behind the call as it read before'; 0 by the template 'total and deterministic' (their statements: YtgllponopdljaaaDoorTotals.lean).
  GIVEN WITH THE SEED: the statements are not yours to turn. If you find one false, say at which input.
  Laid BY PROGRAM, IN A SANDBOX (cutbox-rows.mjs): the forced cells as the released guide's own fill.sh prints them over the translation a85d034c076f18f3… (all of the seat's roots in one cut). By AI agents, Wed Nov 11 2026. No macro, syntax, notation, axiom, sorry.
-/
import Derived.Test.YtgllponopdljaaaDoorChecked
import GoSem.Claim
import GoSem.ClaimJoined
import GoSem.ClaimMapViews
import Derived.JoinedTies
import Derived.KernelRfl
namespace Go.Proofs.YtgllponopdljaaaDoor
/- THE CELL 'sum', in the pinned program and in every row, IS THE sha256 OF THE DUMP (.gsa) THAT YtgllponopdljaaaDoorProg.lean LOADS. Nothing in Lean hashes anything: it is a label: what it is worth is what the hold of that sum in a sandbox is worth. -/
noncomputable def Tryd.pinned : Pinned := { name := "ytgllponopdljaaadoor", sum := "a85d034c076f18f3216d8901f69b503b97b0696389ea3bfb85a579ca4e628f08", checked := Tryd.checked }
namespace Rows
def none {H : Type} : Left H := { results := [], args := [] }

/- WHAT THE LISTED PACKAGE-LEVEL VARIABLES READ AS WHEN THE CALL BEGINS. Each datum BY PROGRAM (the guide's laid-datum.mjs) off the statement by which the dump's own 'gosem.cut.vars' lays the variable. In a bare row this is a premise. The card (YtgllponopdljaaaDoorCards.lean) ties it to the program's text. -/
def laid_loop_example_countedchances_impl_setCounts {H : Type} : DataW H := .agg [.agg [.lit (.int .i64 1), .lit (.int .i64 0), .lit (.int .i64 0), .lit (.int .i64 0), .lit (.int .i64 0), .lit (.int .i64 0), .lit (.int .i64 0), .lit (.int .i64 0), .lit (.int .i64 0), .lit (.int .i64 0), .lit (.int .i64 0)], .agg [.lit (.int .i64 1), .lit (.int .i64 1), .lit (.int .i64 0), .lit (.int .i64 0), .lit (.int .i64 0), .lit (.int .i64 0), .lit (.int .i64 0), .lit (.int .i64 0), .lit (.int .i64 0), .lit (.int .i64 0), .lit (.int .i64 0)], .agg [.lit (.int .i64 1), .lit (.int .i64 2), .lit (.int .i64 1), .lit (.int .i64 0), .lit (.int .i64 0), .lit (.int .i64 0), .lit (.int .i64 0), .lit (.int .i64 0), .lit (.int .i64 0), .lit (.int .i64 0), .lit (.int .i64 0)], .agg [.lit (.int .i64 1), .lit (.int .i64 3), .lit (.int .i64 3), .lit (.int .i64 1), .lit (.int .i64 0), .lit (.int .i64 0), .lit (.int .i64 0), .lit (.int .i64 0), .lit (.int .i64 0), .lit (.int .i64 0), .lit (.int .i64 0)], .agg [.lit (.int .i64 1), .lit (.int .i64 4), .lit (.int .i64 6), .lit (.int .i64 4), .lit (.int .i64 1), .lit (.int .i64 0), .lit (.int .i64 0), .lit (.int .i64 0), .lit (.int .i64 0), .lit (.int .i64 0), .lit (.int .i64 0)], .agg [.lit (.int .i64 1), .lit (.int .i64 5), .lit (.int .i64 10), .lit (.int .i64 10), .lit (.int .i64 5), .lit (.int .i64 1), .lit (.int .i64 0), .lit (.int .i64 0), .lit (.int .i64 0), .lit (.int .i64 0), .lit (.int .i64 0)], .agg [.lit (.int .i64 1), .lit (.int .i64 6), .lit (.int .i64 15), .lit (.int .i64 20), .lit (.int .i64 15), .lit (.int .i64 6), .lit (.int .i64 1), .lit (.int .i64 0), .lit (.int .i64 0), .lit (.int .i64 0), .lit (.int .i64 0)], .agg [.lit (.int .i64 1), .lit (.int .i64 7), .lit (.int .i64 21), .lit (.int .i64 35), .lit (.int .i64 35), .lit (.int .i64 21), .lit (.int .i64 7), .lit (.int .i64 1), .lit (.int .i64 0), .lit (.int .i64 0), .lit (.int .i64 0)], .agg [.lit (.int .i64 1), .lit (.int .i64 8), .lit (.int .i64 28), .lit (.int .i64 56), .lit (.int .i64 70), .lit (.int .i64 56), .lit (.int .i64 28), .lit (.int .i64 8), .lit (.int .i64 1), .lit (.int .i64 0), .lit (.int .i64 0)], .agg [.lit (.int .i64 1), .lit (.int .i64 9), .lit (.int .i64 36), .lit (.int .i64 84), .lit (.int .i64 126), .lit (.int .i64 126), .lit (.int .i64 84), .lit (.int .i64 36), .lit (.int .i64 9), .lit (.int .i64 1), .lit (.int .i64 0)], .agg [.lit (.int .i64 1), .lit (.int .i64 10), .lit (.int .i64 45), .lit (.int .i64 120), .lit (.int .i64 210), .lit (.int .i64 252), .lit (.int .i64 210), .lit (.int .i64 120), .lit (.int .i64 45), .lit (.int .i64 10), .lit (.int .i64 1)]]

/-- 'laws.FnTailChance': WHATEVER THE INPUT: true; the input reads as it did. -/
def fnTailChanceSpec : ChangeSpec := { name := "fnTailChance", vars := ["loop.example/countedchances/impl.setCounts"], fn := fun _ => fun
  | [d, g1] => { results := [.lit (.bool true)], args := [d], vars := [g1] }
  | _ => none }
def fnTailChanceRow : OpenClaim := { program := "ytgllponopdljaaadoor", sum := "a85d034c076f18f3216d8901f69b503b97b0696389ea3bfb85a579ca4e628f08", func := "loop.example/countedchances/laws.FnTailChance", spec := "fnTailChance", unfollowed := true, recurses := true, named := ["loop.example/countedchances/impl.setCounts"], apart := false, laid := [("loop.example/countedchances/impl.setCounts", laid_loop_example_countedchances_impl_setCounts)] }
def FnTailChanceSaid : Prop := fnTailChanceRow.holds Tryd.pinned (OpenSpec.ofChange fnTailChanceSpec)

/-- ITS FALSE NEIGHBOUR: 'it returns false'. Refute it at one input. -/
def fnTailChanceWrong : ChangeSpec := { name := "fnTailChance", vars := ["loop.example/countedchances/impl.setCounts"], fn := fun _ => fun
  | [d, g1] => { results := [.lit (.bool false)], args := [d], vars := [g1] }
  | _ => none }
def FnTailChanceWrongFalsely : Prop := fnTailChanceRow.holds Tryd.pinned (OpenSpec.ofChange fnTailChanceWrong)

/-- 'laws.FnLowBound': WHATEVER THE INPUT: true; the input reads as it did. -/
def fnLowBoundSpec : ChangeSpec := { name := "fnLowBound", vars := ["loop.example/countedchances/impl.setCounts"], fn := fun _ => fun
  | [d, g1] => { results := [.lit (.bool true)], args := [d], vars := [g1] }
  | _ => none }
def fnLowBoundRow : OpenClaim := { program := "ytgllponopdljaaadoor", sum := "a85d034c076f18f3216d8901f69b503b97b0696389ea3bfb85a579ca4e628f08", func := "loop.example/countedchances/laws.FnLowBound", spec := "fnLowBound", unfollowed := true, recurses := true, named := ["loop.example/countedchances/impl.setCounts"], apart := false, laid := [("loop.example/countedchances/impl.setCounts", laid_loop_example_countedchances_impl_setCounts)] }
def FnLowBoundSaid : Prop := fnLowBoundRow.holds Tryd.pinned (OpenSpec.ofChange fnLowBoundSpec)

/-- ITS FALSE NEIGHBOUR: 'it returns false'. Refute it at one input. -/
def fnLowBoundWrong : ChangeSpec := { name := "fnLowBound", vars := ["loop.example/countedchances/impl.setCounts"], fn := fun _ => fun
  | [d, g1] => { results := [.lit (.bool false)], args := [d], vars := [g1] }
  | _ => none }
def FnLowBoundWrongFalsely : Prop := fnLowBoundRow.holds Tryd.pinned (OpenSpec.ofChange fnLowBoundWrong)

/-- 'laws.FnHighBound': WHATEVER THE INPUT: true; the input reads as it did. -/
def fnHighBoundSpec : ChangeSpec := { name := "fnHighBound", vars := ["loop.example/countedchances/impl.setCounts"], fn := fun _ => fun
  | [d, g1] => { results := [.lit (.bool true)], args := [d], vars := [g1] }
  | _ => none }
def fnHighBoundRow : OpenClaim := { program := "ytgllponopdljaaadoor", sum := "a85d034c076f18f3216d8901f69b503b97b0696389ea3bfb85a579ca4e628f08", func := "loop.example/countedchances/laws.FnHighBound", spec := "fnHighBound", unfollowed := true, recurses := true, named := ["loop.example/countedchances/impl.setCounts"], apart := false, laid := [("loop.example/countedchances/impl.setCounts", laid_loop_example_countedchances_impl_setCounts)] }
def FnHighBoundSaid : Prop := fnHighBoundRow.holds Tryd.pinned (OpenSpec.ofChange fnHighBoundSpec)

/-- ITS FALSE NEIGHBOUR: 'it returns false'. Refute it at one input. -/
def fnHighBoundWrong : ChangeSpec := { name := "fnHighBound", vars := ["loop.example/countedchances/impl.setCounts"], fn := fun _ => fun
  | [d, g1] => { results := [.lit (.bool false)], args := [d], vars := [g1] }
  | _ => none }
def FnHighBoundWrongFalsely : Prop := fnHighBoundRow.holds Tryd.pinned (OpenSpec.ofChange fnHighBoundWrong)

/-- 'laws.FnTwoSides': WHATEVER THE INPUT: true; the input reads as it did. -/
def fnTwoSidesSpec : ChangeSpec := { name := "fnTwoSides", vars := ["loop.example/countedchances/impl.setCounts"], fn := fun _ => fun
  | [d, g1] => { results := [.lit (.bool true)], args := [d], vars := [g1] }
  | _ => none }
def fnTwoSidesRow : OpenClaim := { program := "ytgllponopdljaaadoor", sum := "a85d034c076f18f3216d8901f69b503b97b0696389ea3bfb85a579ca4e628f08", func := "loop.example/countedchances/laws.FnTwoSides", spec := "fnTwoSides", unfollowed := true, recurses := true, named := ["loop.example/countedchances/impl.setCounts"], apart := false, laid := [("loop.example/countedchances/impl.setCounts", laid_loop_example_countedchances_impl_setCounts)] }
def FnTwoSidesSaid : Prop := fnTwoSidesRow.holds Tryd.pinned (OpenSpec.ofChange fnTwoSidesSpec)

/-- ITS FALSE NEIGHBOUR: 'it returns false'. Refute it at one input. -/
def fnTwoSidesWrong : ChangeSpec := { name := "fnTwoSides", vars := ["loop.example/countedchances/impl.setCounts"], fn := fun _ => fun
  | [d, g1] => { results := [.lit (.bool false)], args := [d], vars := [g1] }
  | _ => none }
def FnTwoSidesWrongFalsely : Prop := fnTwoSidesRow.holds Tryd.pinned (OpenSpec.ofChange fnTwoSidesWrong)

/-- 'laws.FnMiddlePlaces': WHATEVER THE INPUT: true; the input reads as it did. -/
def fnMiddlePlacesSpec : ChangeSpec := { name := "fnMiddlePlaces", vars := ["loop.example/countedchances/impl.setCounts"], fn := fun _ => fun
  | [d, g1] => { results := [.lit (.bool true)], args := [d], vars := [g1] }
  | _ => none }
def fnMiddlePlacesRow : OpenClaim := { program := "ytgllponopdljaaadoor", sum := "a85d034c076f18f3216d8901f69b503b97b0696389ea3bfb85a579ca4e628f08", func := "loop.example/countedchances/laws.FnMiddlePlaces", spec := "fnMiddlePlaces", named := ["loop.example/countedchances/impl.setCounts"], apart := false, laid := [("loop.example/countedchances/impl.setCounts", laid_loop_example_countedchances_impl_setCounts)] }
def FnMiddlePlacesSaid : Prop := fnMiddlePlacesRow.holds Tryd.pinned (OpenSpec.ofChange fnMiddlePlacesSpec)

/-- ITS FALSE NEIGHBOUR: 'it returns false'. Refute it at one input. -/
def fnMiddlePlacesWrong : ChangeSpec := { name := "fnMiddlePlaces", vars := ["loop.example/countedchances/impl.setCounts"], fn := fun _ => fun
  | [d, g1] => { results := [.lit (.bool false)], args := [d], vars := [g1] }
  | _ => none }
def FnMiddlePlacesWrongFalsely : Prop := fnMiddlePlacesRow.holds Tryd.pinned (OpenSpec.ofChange fnMiddlePlacesWrong)

/-- 'laws.FnExactTailChance': WHATEVER THE INPUT: true; the input reads as it did. -/
def fnExactTailChanceSpec : ChangeSpec := { name := "fnExactTailChance", vars := ["loop.example/countedchances/impl.setCounts"], fn := fun _ => fun
  | [d1, d2, d3, d4, g1] => { results := [.lit (.bool true)], args := [d1, d2, d3, d4], vars := [g1] }
  | _ => none }
def fnExactTailChanceRow : OpenClaim := { program := "ytgllponopdljaaadoor", sum := "a85d034c076f18f3216d8901f69b503b97b0696389ea3bfb85a579ca4e628f08", func := "loop.example/countedchances/laws.FnExactTailChance", spec := "fnExactTailChance", unfollowed := true, recurses := true, named := ["loop.example/countedchances/impl.setCounts"], apart := false, laid := [("loop.example/countedchances/impl.setCounts", laid_loop_example_countedchances_impl_setCounts)] }
def FnExactTailChanceSaid : Prop := fnExactTailChanceRow.holds Tryd.pinned (OpenSpec.ofChange fnExactTailChanceSpec)

/-- ITS FALSE NEIGHBOUR: 'it returns false'. Refute it at one input. -/
def fnExactTailChanceWrong : ChangeSpec := { name := "fnExactTailChance", vars := ["loop.example/countedchances/impl.setCounts"], fn := fun _ => fun
  | [d1, d2, d3, d4, g1] => { results := [.lit (.bool false)], args := [d1, d2, d3, d4], vars := [g1] }
  | _ => none }
def FnExactTailChanceWrongFalsely : Prop := fnExactTailChanceRow.holds Tryd.pinned (OpenSpec.ofChange fnExactTailChanceWrong)

/-- 'laws.FnExactLowBound': WHATEVER THE INPUT: true; the input reads as it did. -/
def fnExactLowBoundSpec : ChangeSpec := { name := "fnExactLowBound", vars := ["loop.example/countedchances/impl.setCounts"], fn := fun _ => fun
  | [d1, d2, d3, d4, d5, g1] => { results := [.lit (.bool true)], args := [d1, d2, d3, d4, d5], vars := [g1] }
  | _ => none }
def fnExactLowBoundRow : OpenClaim := { program := "ytgllponopdljaaadoor", sum := "a85d034c076f18f3216d8901f69b503b97b0696389ea3bfb85a579ca4e628f08", func := "loop.example/countedchances/laws.FnExactLowBound", spec := "fnExactLowBound", unfollowed := true, recurses := true, named := ["loop.example/countedchances/impl.setCounts"], apart := false, laid := [("loop.example/countedchances/impl.setCounts", laid_loop_example_countedchances_impl_setCounts)] }
def FnExactLowBoundSaid : Prop := fnExactLowBoundRow.holds Tryd.pinned (OpenSpec.ofChange fnExactLowBoundSpec)

/-- ITS FALSE NEIGHBOUR: 'it returns false'. Refute it at one input. -/
def fnExactLowBoundWrong : ChangeSpec := { name := "fnExactLowBound", vars := ["loop.example/countedchances/impl.setCounts"], fn := fun _ => fun
  | [d1, d2, d3, d4, d5, g1] => { results := [.lit (.bool false)], args := [d1, d2, d3, d4, d5], vars := [g1] }
  | _ => none }
def FnExactLowBoundWrongFalsely : Prop := fnExactLowBoundRow.holds Tryd.pinned (OpenSpec.ofChange fnExactLowBoundWrong)

/-- 'laws.FnExactHighBound': WHATEVER THE INPUT: true; the input reads as it did. -/
def fnExactHighBoundSpec : ChangeSpec := { name := "fnExactHighBound", vars := ["loop.example/countedchances/impl.setCounts"], fn := fun _ => fun
  | [d1, d2, d3, d4, d5, g1] => { results := [.lit (.bool true)], args := [d1, d2, d3, d4, d5], vars := [g1] }
  | _ => none }
def fnExactHighBoundRow : OpenClaim := { program := "ytgllponopdljaaadoor", sum := "a85d034c076f18f3216d8901f69b503b97b0696389ea3bfb85a579ca4e628f08", func := "loop.example/countedchances/laws.FnExactHighBound", spec := "fnExactHighBound", unfollowed := true, recurses := true, named := ["loop.example/countedchances/impl.setCounts"], apart := false, laid := [("loop.example/countedchances/impl.setCounts", laid_loop_example_countedchances_impl_setCounts)] }
def FnExactHighBoundSaid : Prop := fnExactHighBoundRow.holds Tryd.pinned (OpenSpec.ofChange fnExactHighBoundSpec)

/-- ITS FALSE NEIGHBOUR: 'it returns false'. Refute it at one input. -/
def fnExactHighBoundWrong : ChangeSpec := { name := "fnExactHighBound", vars := ["loop.example/countedchances/impl.setCounts"], fn := fun _ => fun
  | [d1, d2, d3, d4, d5, g1] => { results := [.lit (.bool false)], args := [d1, d2, d3, d4, d5], vars := [g1] }
  | _ => none }
def FnExactHighBoundWrongFalsely : Prop := fnExactHighBoundRow.holds Tryd.pinned (OpenSpec.ofChange fnExactHighBoundWrong)

/-- 'laws.FnExactTwoSides': WHATEVER THE INPUT: true; the input reads as it did. -/
def fnExactTwoSidesSpec : ChangeSpec := { name := "fnExactTwoSides", vars := ["loop.example/countedchances/impl.setCounts"], fn := fun _ => fun
  | [d1, d2, d3, d4, g1] => { results := [.lit (.bool true)], args := [d1, d2, d3, d4], vars := [g1] }
  | _ => none }
def fnExactTwoSidesRow : OpenClaim := { program := "ytgllponopdljaaadoor", sum := "a85d034c076f18f3216d8901f69b503b97b0696389ea3bfb85a579ca4e628f08", func := "loop.example/countedchances/laws.FnExactTwoSides", spec := "fnExactTwoSides", unfollowed := true, recurses := true, named := ["loop.example/countedchances/impl.setCounts"], apart := false, laid := [("loop.example/countedchances/impl.setCounts", laid_loop_example_countedchances_impl_setCounts)] }
def FnExactTwoSidesSaid : Prop := fnExactTwoSidesRow.holds Tryd.pinned (OpenSpec.ofChange fnExactTwoSidesSpec)

/-- ITS FALSE NEIGHBOUR: 'it returns false'. Refute it at one input. -/
def fnExactTwoSidesWrong : ChangeSpec := { name := "fnExactTwoSides", vars := ["loop.example/countedchances/impl.setCounts"], fn := fun _ => fun
  | [d1, d2, d3, d4, g1] => { results := [.lit (.bool false)], args := [d1, d2, d3, d4], vars := [g1] }
  | _ => none }
def FnExactTwoSidesWrongFalsely : Prop := fnExactTwoSidesRow.holds Tryd.pinned (OpenSpec.ofChange fnExactTwoSidesWrong)

/-- 'laws.FnExactMiddlePlaces': WHATEVER THE INPUT: true; the input reads as it did. -/
def fnExactMiddlePlacesSpec : ChangeSpec := { name := "fnExactMiddlePlaces", vars := ["loop.example/countedchances/impl.setCounts"], fn := fun _ => fun
  | [d1, d2, d3, g1] => { results := [.lit (.bool true)], args := [d1, d2, d3], vars := [g1] }
  | _ => none }
def fnExactMiddlePlacesRow : OpenClaim := { program := "ytgllponopdljaaadoor", sum := "a85d034c076f18f3216d8901f69b503b97b0696389ea3bfb85a579ca4e628f08", func := "loop.example/countedchances/laws.FnExactMiddlePlaces", spec := "fnExactMiddlePlaces", named := ["loop.example/countedchances/impl.setCounts"], apart := false, laid := [("loop.example/countedchances/impl.setCounts", laid_loop_example_countedchances_impl_setCounts)] }
def FnExactMiddlePlacesSaid : Prop := fnExactMiddlePlacesRow.holds Tryd.pinned (OpenSpec.ofChange fnExactMiddlePlacesSpec)

/-- ITS FALSE NEIGHBOUR: 'it returns false'. Refute it at one input. -/
def fnExactMiddlePlacesWrong : ChangeSpec := { name := "fnExactMiddlePlaces", vars := ["loop.example/countedchances/impl.setCounts"], fn := fun _ => fun
  | [d1, d2, d3, g1] => { results := [.lit (.bool false)], args := [d1, d2, d3], vars := [g1] }
  | _ => none }
def FnExactMiddlePlacesWrongFalsely : Prop := fnExactMiddlePlacesRow.holds Tryd.pinned (OpenSpec.ofChange fnExactMiddlePlacesWrong)

/- THE SECOND FORM. 'bulk': how many values and letters a reading holds, each counted each time it is reached (what is shared counts as often as it is met; a slice's spare places count too). A statement '..UptoSaid' is the law's where the arguments, and the package variables that the reading takes, are together of bulk at most 1048576: NARROWER than '..Said'. Prove '..Said' where nothing that the law and all that it calls make is longer than what came in: it says more and counts as full. Else prove '..UptoSaid'. A law counts once. -/
mutual
def uptoBulk {H : Type} : DataW H → Nat
  | .lit (.string bytes) => bytes.length + 1
  | .lit _ => 1
  | .nil => 1
  | .ptr d => uptoBulk d + 1
  | .slice elems spare => uptoBulkAll elems + uptoBulkAll spare + 1
  | .agg parts => uptoBulkAll parts + 1
  | .iface _ d => uptoBulk d + 1
  | .map entries => uptoBulkEntries entries + 1
  | .held _ => 1
def uptoBulkAll {H : Type} : List (DataW H) → Nat
  | [] => 0
  | d :: r => uptoBulk d + uptoBulkAll r
def uptoBulkEntries {H : Type} : List (Lit × DataW H) → Nat
  | [] => 0
  | x :: r => uptoBulkEntry x + uptoBulkEntries r
def uptoBulkEntry {H : Type} : Lit × DataW H → Nat
  | (.string bytes, d) => bytes.length + uptoBulk d + 1
  | (_, d) => uptoBulk d + 1
 end
def uptoSmall : (H : Type) → List (DataW H) → Bool := fun _ ds => decide (uptoBulkAll ds ≤ 1048576)
def OpenSpec.upto (s : _root_.Go.ChangeSpec) : _root_.Go.OpenSpec := { _root_.Go.OpenSpec.ofChange s with cond := some uptoSmall }

/-- 'laws.FnTailChance', WHERE WHAT IT READS IS OF BULK AT MOST 1048576: true; the input reads as it did. -/
def fnTailChanceUptoRow : OpenClaim := { program := "ytgllponopdljaaadoor", sum := "a85d034c076f18f3216d8901f69b503b97b0696389ea3bfb85a579ca4e628f08", func := "loop.example/countedchances/laws.FnTailChance", spec := "fnTailChance", unfollowed := true, recurses := true, named := ["loop.example/countedchances/impl.setCounts"], apart := false, laid := [("loop.example/countedchances/impl.setCounts", laid_loop_example_countedchances_impl_setCounts)], narrowed := true }
def FnTailChanceUptoSaid : Prop := fnTailChanceUptoRow.holds Tryd.pinned (OpenSpec.upto fnTailChanceSpec)

/-- 'laws.FnLowBound', WHERE WHAT IT READS IS OF BULK AT MOST 1048576: true; the input reads as it did. -/
def fnLowBoundUptoRow : OpenClaim := { program := "ytgllponopdljaaadoor", sum := "a85d034c076f18f3216d8901f69b503b97b0696389ea3bfb85a579ca4e628f08", func := "loop.example/countedchances/laws.FnLowBound", spec := "fnLowBound", unfollowed := true, recurses := true, named := ["loop.example/countedchances/impl.setCounts"], apart := false, laid := [("loop.example/countedchances/impl.setCounts", laid_loop_example_countedchances_impl_setCounts)], narrowed := true }
def FnLowBoundUptoSaid : Prop := fnLowBoundUptoRow.holds Tryd.pinned (OpenSpec.upto fnLowBoundSpec)

/-- 'laws.FnHighBound', WHERE WHAT IT READS IS OF BULK AT MOST 1048576: true; the input reads as it did. -/
def fnHighBoundUptoRow : OpenClaim := { program := "ytgllponopdljaaadoor", sum := "a85d034c076f18f3216d8901f69b503b97b0696389ea3bfb85a579ca4e628f08", func := "loop.example/countedchances/laws.FnHighBound", spec := "fnHighBound", unfollowed := true, recurses := true, named := ["loop.example/countedchances/impl.setCounts"], apart := false, laid := [("loop.example/countedchances/impl.setCounts", laid_loop_example_countedchances_impl_setCounts)], narrowed := true }
def FnHighBoundUptoSaid : Prop := fnHighBoundUptoRow.holds Tryd.pinned (OpenSpec.upto fnHighBoundSpec)

/-- 'laws.FnTwoSides', WHERE WHAT IT READS IS OF BULK AT MOST 1048576: true; the input reads as it did. -/
def fnTwoSidesUptoRow : OpenClaim := { program := "ytgllponopdljaaadoor", sum := "a85d034c076f18f3216d8901f69b503b97b0696389ea3bfb85a579ca4e628f08", func := "loop.example/countedchances/laws.FnTwoSides", spec := "fnTwoSides", unfollowed := true, recurses := true, named := ["loop.example/countedchances/impl.setCounts"], apart := false, laid := [("loop.example/countedchances/impl.setCounts", laid_loop_example_countedchances_impl_setCounts)], narrowed := true }
def FnTwoSidesUptoSaid : Prop := fnTwoSidesUptoRow.holds Tryd.pinned (OpenSpec.upto fnTwoSidesSpec)

/-- 'laws.FnMiddlePlaces', WHERE WHAT IT READS IS OF BULK AT MOST 1048576: true; the input reads as it did. -/
def fnMiddlePlacesUptoRow : OpenClaim := { program := "ytgllponopdljaaadoor", sum := "a85d034c076f18f3216d8901f69b503b97b0696389ea3bfb85a579ca4e628f08", func := "loop.example/countedchances/laws.FnMiddlePlaces", spec := "fnMiddlePlaces", named := ["loop.example/countedchances/impl.setCounts"], apart := false, laid := [("loop.example/countedchances/impl.setCounts", laid_loop_example_countedchances_impl_setCounts)], narrowed := true }
def FnMiddlePlacesUptoSaid : Prop := fnMiddlePlacesUptoRow.holds Tryd.pinned (OpenSpec.upto fnMiddlePlacesSpec)

/-- 'laws.FnExactTailChance', WHERE WHAT IT READS IS OF BULK AT MOST 1048576: true; the input reads as it did. -/
def fnExactTailChanceUptoRow : OpenClaim := { program := "ytgllponopdljaaadoor", sum := "a85d034c076f18f3216d8901f69b503b97b0696389ea3bfb85a579ca4e628f08", func := "loop.example/countedchances/laws.FnExactTailChance", spec := "fnExactTailChance", unfollowed := true, recurses := true, named := ["loop.example/countedchances/impl.setCounts"], apart := false, laid := [("loop.example/countedchances/impl.setCounts", laid_loop_example_countedchances_impl_setCounts)], narrowed := true }
def FnExactTailChanceUptoSaid : Prop := fnExactTailChanceUptoRow.holds Tryd.pinned (OpenSpec.upto fnExactTailChanceSpec)

/-- 'laws.FnExactLowBound', WHERE WHAT IT READS IS OF BULK AT MOST 1048576: true; the input reads as it did. -/
def fnExactLowBoundUptoRow : OpenClaim := { program := "ytgllponopdljaaadoor", sum := "a85d034c076f18f3216d8901f69b503b97b0696389ea3bfb85a579ca4e628f08", func := "loop.example/countedchances/laws.FnExactLowBound", spec := "fnExactLowBound", unfollowed := true, recurses := true, named := ["loop.example/countedchances/impl.setCounts"], apart := false, laid := [("loop.example/countedchances/impl.setCounts", laid_loop_example_countedchances_impl_setCounts)], narrowed := true }
def FnExactLowBoundUptoSaid : Prop := fnExactLowBoundUptoRow.holds Tryd.pinned (OpenSpec.upto fnExactLowBoundSpec)

/-- 'laws.FnExactHighBound', WHERE WHAT IT READS IS OF BULK AT MOST 1048576: true; the input reads as it did. -/
def fnExactHighBoundUptoRow : OpenClaim := { program := "ytgllponopdljaaadoor", sum := "a85d034c076f18f3216d8901f69b503b97b0696389ea3bfb85a579ca4e628f08", func := "loop.example/countedchances/laws.FnExactHighBound", spec := "fnExactHighBound", unfollowed := true, recurses := true, named := ["loop.example/countedchances/impl.setCounts"], apart := false, laid := [("loop.example/countedchances/impl.setCounts", laid_loop_example_countedchances_impl_setCounts)], narrowed := true }
def FnExactHighBoundUptoSaid : Prop := fnExactHighBoundUptoRow.holds Tryd.pinned (OpenSpec.upto fnExactHighBoundSpec)

/-- 'laws.FnExactTwoSides', WHERE WHAT IT READS IS OF BULK AT MOST 1048576: true; the input reads as it did. -/
def fnExactTwoSidesUptoRow : OpenClaim := { program := "ytgllponopdljaaadoor", sum := "a85d034c076f18f3216d8901f69b503b97b0696389ea3bfb85a579ca4e628f08", func := "loop.example/countedchances/laws.FnExactTwoSides", spec := "fnExactTwoSides", unfollowed := true, recurses := true, named := ["loop.example/countedchances/impl.setCounts"], apart := false, laid := [("loop.example/countedchances/impl.setCounts", laid_loop_example_countedchances_impl_setCounts)], narrowed := true }
def FnExactTwoSidesUptoSaid : Prop := fnExactTwoSidesUptoRow.holds Tryd.pinned (OpenSpec.upto fnExactTwoSidesSpec)

/-- 'laws.FnExactMiddlePlaces', WHERE WHAT IT READS IS OF BULK AT MOST 1048576: true; the input reads as it did. -/
def fnExactMiddlePlacesUptoRow : OpenClaim := { program := "ytgllponopdljaaadoor", sum := "a85d034c076f18f3216d8901f69b503b97b0696389ea3bfb85a579ca4e628f08", func := "loop.example/countedchances/laws.FnExactMiddlePlaces", spec := "fnExactMiddlePlaces", named := ["loop.example/countedchances/impl.setCounts"], apart := false, laid := [("loop.example/countedchances/impl.setCounts", laid_loop_example_countedchances_impl_setCounts)], narrowed := true }
def FnExactMiddlePlacesUptoSaid : Prop := fnExactMiddlePlacesUptoRow.holds Tryd.pinned (OpenSpec.upto fnExactMiddlePlacesSpec)

end Rows
end Go.Proofs.YtgllponopdljaaaDoor
