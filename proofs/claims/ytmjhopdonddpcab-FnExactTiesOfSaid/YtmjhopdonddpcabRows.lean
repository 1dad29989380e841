/-
  No cell of these rows narrows 'for every input' (looked for: loops, veiled, ifaces, maps, wideKeys, modest, calm, conditions, laid).
  DERIVED. THE GIVEN ROWS OF THIS SEAT. 12 by the template 'for every input the law returns true; each argument reads behind the call as it read before'; 0 by the template 'total and deterministic' (their statements: YtmjhopdonddpcabTotals.lean).
  GIVEN WITH THE SEED: the statements are not yours to turn. If you find one false, say at which input.
  Laid BY PROGRAM, IN A SANDBOX (cutbox-rows.mjs): the forced cells as the released guide's own fill.sh prints them over the translation 77d62e080a7b3eb1… (all of the seat's roots in one cut). By AI agents, Wed Nov 11 2026. No macro, syntax, notation, axiom, sorry.
-/
import Derived.Test.YtmjhopdonddpcabChecked
import GoSem.Claim
import GoSem.ClaimJoined
import GoSem.ClaimMapViews
import Derived.JoinedTies
import Derived.KernelRfl
namespace Go.Proofs.Ytmjhopdonddpcab
/- THE CELL 'sum', in the pinned program and in every row, IS THE sha256 OF THE DUMP (.gsa) THAT YtmjhopdonddpcabProg.lean LOADS. Nothing in Lean hashes anything: it is a label: what it is worth is what the hold of that sum in a sandbox is worth. -/
noncomputable def Try.pinned : Pinned := { name := "ytmjhopdonddpcab", sum := "77d62e080a7b3eb13278d4ccf9241bbc6fe7968200a17863fc99eb5027da2276", checked := Try.checked }
namespace Rows
def none {H : Type} : Left H := { results := [], args := [] }

/-- 'laws.FnRunCount': WHATEVER THE INPUT: true; the input reads as it did. -/
def fnRunCountSpec : ChangeSpec := { name := "fnRunCount", fn := fun _ => fun
  | [d] => { results := [.lit (.bool true)], args := [d] }
  | _ => none }
def fnRunCountRow : OpenClaim := { program := "ytmjhopdonddpcab", sum := "77d62e080a7b3eb13278d4ccf9241bbc6fe7968200a17863fc99eb5027da2276", func := "loop.example/countedchances/laws.FnRunCount", spec := "fnRunCount", unfollowed := true, recurses := true, apart := false }
def FnRunCountSaid : Prop := fnRunCountRow.holds Try.pinned (OpenSpec.ofChange fnRunCountSpec)

/-- ITS FALSE NEIGHBOUR: 'it returns false'. Refute it at one input. -/
def fnRunCountWrong : ChangeSpec := { name := "fnRunCount", fn := fun _ => fun
  | [d] => { results := [.lit (.bool false)], args := [d] }
  | _ => none }
def FnRunCountWrongFalsely : Prop := fnRunCountRow.holds Try.pinned (OpenSpec.ofChange fnRunCountWrong)

/-- 'laws.FnExactValidData': WHATEVER THE INPUT: true; the input reads as it did. -/
def fnExactValidDataSpec : ChangeSpec := { name := "fnExactValidData", fn := fun _ => fun
  | [d] => { results := [.lit (.bool true)], args := [d] }
  | _ => none }
def fnExactValidDataRow : OpenClaim := { program := "ytmjhopdonddpcab", sum := "77d62e080a7b3eb13278d4ccf9241bbc6fe7968200a17863fc99eb5027da2276", func := "loop.example/countedchances/laws.FnExactValidData", spec := "fnExactValidData", apart := false }
def FnExactValidDataSaid : Prop := fnExactValidDataRow.holds Try.pinned (OpenSpec.ofChange fnExactValidDataSpec)

/-- ITS FALSE NEIGHBOUR: 'it returns false'. Refute it at one input. -/
def fnExactValidDataWrong : ChangeSpec := { name := "fnExactValidData", fn := fun _ => fun
  | [d] => { results := [.lit (.bool false)], args := [d] }
  | _ => none }
def FnExactValidDataWrongFalsely : Prop := fnExactValidDataRow.holds Try.pinned (OpenSpec.ofChange fnExactValidDataWrong)

/-- 'laws.FnExactRanksOf': WHATEVER THE INPUT: true; the input reads as it did. -/
def fnExactRanksOfSpec : ChangeSpec := { name := "fnExactRanksOf", fn := fun _ => fun
  | [d] => { results := [.lit (.bool true)], args := [d] }
  | _ => none }
def fnExactRanksOfRow : OpenClaim := { program := "ytmjhopdonddpcab", sum := "77d62e080a7b3eb13278d4ccf9241bbc6fe7968200a17863fc99eb5027da2276", func := "loop.example/countedchances/laws.FnExactRanksOf", spec := "fnExactRanksOf", apart := false }
def FnExactRanksOfSaid : Prop := fnExactRanksOfRow.holds Try.pinned (OpenSpec.ofChange fnExactRanksOfSpec)

/-- ITS FALSE NEIGHBOUR: 'it returns false'. Refute it at one input. -/
def fnExactRanksOfWrong : ChangeSpec := { name := "fnExactRanksOf", fn := fun _ => fun
  | [d] => { results := [.lit (.bool false)], args := [d] }
  | _ => none }
def FnExactRanksOfWrongFalsely : Prop := fnExactRanksOfRow.holds Try.pinned (OpenSpec.ofChange fnExactRanksOfWrong)

/-- 'laws.FnExactTiesOf': WHATEVER THE INPUT: true; the input reads as it did. -/
def fnExactTiesOfSpec : ChangeSpec := { name := "fnExactTiesOf", fn := fun _ => fun
  | [d] => { results := [.lit (.bool true)], args := [d] }
  | _ => none }
def fnExactTiesOfRow : OpenClaim := { program := "ytmjhopdonddpcab", sum := "77d62e080a7b3eb13278d4ccf9241bbc6fe7968200a17863fc99eb5027da2276", func := "loop.example/countedchances/laws.FnExactTiesOf", spec := "fnExactTiesOf", recurses := true, apart := false }
def FnExactTiesOfSaid : Prop := fnExactTiesOfRow.holds Try.pinned (OpenSpec.ofChange fnExactTiesOfSpec)

/-- ITS FALSE NEIGHBOUR: 'it returns false'. Refute it at one input. -/
def fnExactTiesOfWrong : ChangeSpec := { name := "fnExactTiesOf", fn := fun _ => fun
  | [d] => { results := [.lit (.bool false)], args := [d] }
  | _ => none }
def FnExactTiesOfWrongFalsely : Prop := fnExactTiesOfRow.holds Try.pinned (OpenSpec.ofChange fnExactTiesOfWrong)

/-- 'laws.FnExactMiddleOf': WHATEVER THE INPUT: true; the input reads as it did. -/
def fnExactMiddleOfSpec : ChangeSpec := { name := "fnExactMiddleOf", fn := fun _ => fun
  | [d] => { results := [.lit (.bool true)], args := [d] }
  | _ => none }
def fnExactMiddleOfRow : OpenClaim := { program := "ytmjhopdonddpcab", sum := "77d62e080a7b3eb13278d4ccf9241bbc6fe7968200a17863fc99eb5027da2276", func := "loop.example/countedchances/laws.FnExactMiddleOf", spec := "fnExactMiddleOf", recurses := true, apart := false }
def FnExactMiddleOfSaid : Prop := fnExactMiddleOfRow.holds Try.pinned (OpenSpec.ofChange fnExactMiddleOfSpec)

/-- ITS FALSE NEIGHBOUR: 'it returns false'. Refute it at one input. -/
def fnExactMiddleOfWrong : ChangeSpec := { name := "fnExactMiddleOf", fn := fun _ => fun
  | [d] => { results := [.lit (.bool false)], args := [d] }
  | _ => none }
def FnExactMiddleOfWrongFalsely : Prop := fnExactMiddleOfRow.holds Try.pinned (OpenSpec.ofChange fnExactMiddleOfWrong)

/-- 'laws.FnExactAgreeOf': WHATEVER THE INPUT: true; the input reads as it did. -/
def fnExactAgreeOfSpec : ChangeSpec := { name := "fnExactAgreeOf", fn := fun _ => fun
  | [d1, d2] => { results := [.lit (.bool true)], args := [d1, d2] }
  | _ => none }
def fnExactAgreeOfRow : OpenClaim := { program := "ytmjhopdonddpcab", sum := "77d62e080a7b3eb13278d4ccf9241bbc6fe7968200a17863fc99eb5027da2276", func := "loop.example/countedchances/laws.FnExactAgreeOf", spec := "fnExactAgreeOf", unfollowed := true, recurses := true, apart := false }
def FnExactAgreeOfSaid : Prop := fnExactAgreeOfRow.holds Try.pinned (OpenSpec.ofChange fnExactAgreeOfSpec)

/-- ITS FALSE NEIGHBOUR: 'it returns false'. Refute it at one input. -/
def fnExactAgreeOfWrong : ChangeSpec := { name := "fnExactAgreeOf", fn := fun _ => fun
  | [d1, d2] => { results := [.lit (.bool false)], args := [d1, d2] }
  | _ => none }
def FnExactAgreeOfWrongFalsely : Prop := fnExactAgreeOfRow.holds Try.pinned (OpenSpec.ofChange fnExactAgreeOfWrong)

/-- 'laws.FnExactRankGap': WHATEVER THE INPUT: true; the input reads as it did. -/
def fnExactRankGapSpec : ChangeSpec := { name := "fnExactRankGap", fn := fun _ => fun
  | [d1, d2] => { results := [.lit (.bool true)], args := [d1, d2] }
  | _ => none }
def fnExactRankGapRow : OpenClaim := { program := "ytmjhopdonddpcab", sum := "77d62e080a7b3eb13278d4ccf9241bbc6fe7968200a17863fc99eb5027da2276", func := "loop.example/countedchances/laws.FnExactRankGap", spec := "fnExactRankGap", apart := false }
def FnExactRankGapSaid : Prop := fnExactRankGapRow.holds Try.pinned (OpenSpec.ofChange fnExactRankGapSpec)

/-- ITS FALSE NEIGHBOUR: 'it returns false'. Refute it at one input. -/
def fnExactRankGapWrong : ChangeSpec := { name := "fnExactRankGap", fn := fun _ => fun
  | [d1, d2] => { results := [.lit (.bool false)], args := [d1, d2] }
  | _ => none }
def FnExactRankGapWrongFalsely : Prop := fnExactRankGapRow.holds Try.pinned (OpenSpec.ofChange fnExactRankGapWrong)

/-- 'laws.FnExactFallCounts': WHATEVER THE INPUT: true; the input reads as it did. -/
def fnExactFallCountsSpec : ChangeSpec := { name := "fnExactFallCounts", fn := fun _ => fun
  | [d] => { results := [.lit (.bool true)], args := [d] }
  | _ => none }
def fnExactFallCountsRow : OpenClaim := { program := "ytmjhopdonddpcab", sum := "77d62e080a7b3eb13278d4ccf9241bbc6fe7968200a17863fc99eb5027da2276", func := "loop.example/countedchances/laws.FnExactFallCounts", spec := "fnExactFallCounts", apart := false }
def FnExactFallCountsSaid : Prop := fnExactFallCountsRow.holds Try.pinned (OpenSpec.ofChange fnExactFallCountsSpec)

/-- ITS FALSE NEIGHBOUR: 'it returns false'. Refute it at one input. -/
def fnExactFallCountsWrong : ChangeSpec := { name := "fnExactFallCounts", fn := fun _ => fun
  | [d] => { results := [.lit (.bool false)], args := [d] }
  | _ => none }
def FnExactFallCountsWrongFalsely : Prop := fnExactFallCountsRow.holds Try.pinned (OpenSpec.ofChange fnExactFallCountsWrong)

/-- 'laws.FnExactAgreeChance': WHATEVER THE INPUT: true; the input reads as it did. -/
def fnExactAgreeChanceSpec : ChangeSpec := { name := "fnExactAgreeChance", fn := fun _ => fun
  | [d1, d2] => { results := [.lit (.bool true)], args := [d1, d2] }
  | _ => none }
def fnExactAgreeChanceRow : OpenClaim := { program := "ytmjhopdonddpcab", sum := "77d62e080a7b3eb13278d4ccf9241bbc6fe7968200a17863fc99eb5027da2276", func := "loop.example/countedchances/laws.FnExactAgreeChance", spec := "fnExactAgreeChance", apart := false }
def FnExactAgreeChanceSaid : Prop := fnExactAgreeChanceRow.holds Try.pinned (OpenSpec.ofChange fnExactAgreeChanceSpec)

/-- ITS FALSE NEIGHBOUR: 'it returns false'. Refute it at one input. -/
def fnExactAgreeChanceWrong : ChangeSpec := { name := "fnExactAgreeChance", fn := fun _ => fun
  | [d1, d2] => { results := [.lit (.bool false)], args := [d1, d2] }
  | _ => none }
def FnExactAgreeChanceWrongFalsely : Prop := fnExactAgreeChanceRow.holds Try.pinned (OpenSpec.ofChange fnExactAgreeChanceWrong)

/-- 'laws.FnExactSplitChance': WHATEVER THE INPUT: true; the input reads as it did. -/
def fnExactSplitChanceSpec : ChangeSpec := { name := "fnExactSplitChance", fn := fun _ => fun
  | [d1, d2] => { results := [.lit (.bool true)], args := [d1, d2] }
  | _ => none }
def fnExactSplitChanceRow : OpenClaim := { program := "ytmjhopdonddpcab", sum := "77d62e080a7b3eb13278d4ccf9241bbc6fe7968200a17863fc99eb5027da2276", func := "loop.example/countedchances/laws.FnExactSplitChance", spec := "fnExactSplitChance", unfollowed := true, recurses := true, apart := false }
def FnExactSplitChanceSaid : Prop := fnExactSplitChanceRow.holds Try.pinned (OpenSpec.ofChange fnExactSplitChanceSpec)

/-- ITS FALSE NEIGHBOUR: 'it returns false'. Refute it at one input. -/
def fnExactSplitChanceWrong : ChangeSpec := { name := "fnExactSplitChance", fn := fun _ => fun
  | [d1, d2] => { results := [.lit (.bool false)], args := [d1, d2] }
  | _ => none }
def FnExactSplitChanceWrongFalsely : Prop := fnExactSplitChanceRow.holds Try.pinned (OpenSpec.ofChange fnExactSplitChanceWrong)

/-- 'laws.FnExactWinsOf': WHATEVER THE INPUT: true; the input reads as it did. -/
def fnExactWinsOfSpec : ChangeSpec := { name := "fnExactWinsOf", fn := fun _ => fun
  | [d1, d2] => { results := [.lit (.bool true)], args := [d1, d2] }
  | _ => none }
def fnExactWinsOfRow : OpenClaim := { program := "ytmjhopdonddpcab", sum := "77d62e080a7b3eb13278d4ccf9241bbc6fe7968200a17863fc99eb5027da2276", func := "loop.example/countedchances/laws.FnExactWinsOf", spec := "fnExactWinsOf", apart := false }
def FnExactWinsOfSaid : Prop := fnExactWinsOfRow.holds Try.pinned (OpenSpec.ofChange fnExactWinsOfSpec)

/-- ITS FALSE NEIGHBOUR: 'it returns false'. Refute it at one input. -/
def fnExactWinsOfWrong : ChangeSpec := { name := "fnExactWinsOf", fn := fun _ => fun
  | [d1, d2] => { results := [.lit (.bool false)], args := [d1, d2] }
  | _ => none }
def FnExactWinsOfWrongFalsely : Prop := fnExactWinsOfRow.holds Try.pinned (OpenSpec.ofChange fnExactWinsOfWrong)

/-- 'laws.FnExactWinCounts': WHATEVER THE INPUT: true; the input reads as it did. -/
def fnExactWinCountsSpec : ChangeSpec := { name := "fnExactWinCounts", fn := fun _ => fun
  | [d1, d2] => { results := [.lit (.bool true)], args := [d1, d2] }
  | _ => none }
def fnExactWinCountsRow : OpenClaim := { program := "ytmjhopdonddpcab", sum := "77d62e080a7b3eb13278d4ccf9241bbc6fe7968200a17863fc99eb5027da2276", func := "loop.example/countedchances/laws.FnExactWinCounts", spec := "fnExactWinCounts", unfollowed := true, recurses := true, apart := false }
def FnExactWinCountsSaid : Prop := fnExactWinCountsRow.holds Try.pinned (OpenSpec.ofChange fnExactWinCountsSpec)

/-- ITS FALSE NEIGHBOUR: 'it returns false'. Refute it at one input. -/
def fnExactWinCountsWrong : ChangeSpec := { name := "fnExactWinCounts", fn := fun _ => fun
  | [d1, d2] => { results := [.lit (.bool false)], args := [d1, d2] }
  | _ => none }
def FnExactWinCountsWrongFalsely : Prop := fnExactWinCountsRow.holds Try.pinned (OpenSpec.ofChange fnExactWinCountsWrong)

/- THE SECOND FORM. 'bulk': how many values and letters a reading holds, each counted each time it is reached (what is shared counts as often as it is met; a slice's spare places count too). A statement '..UptoSaid' is the law's where the arguments, and the package variables that the reading takes, are together of bulk at most 1048576: NARROWER than '..Said'. Prove '..Said' where nothing that the law and all that it calls make is longer than what came in: it says more and counts as full. Else prove '..UptoSaid'. A law counts once. -/
mutual
def uptoBulk {H : Type} : DataW H → Nat
  | .lit (.string bytes) => bytes.length + 1
  | .lit _ => 1
  | .nil => 1
  | .ptr d => uptoBulk d + 1
  | .slice elems spare => uptoBulkAll elems + uptoBulkAll spare + 1
  | .agg parts => uptoBulkAll parts + 1
  | .iface _ d => uptoBulk d + 1
  | .map entries => uptoBulkEntries entries + 1
  | .held _ => 1
def uptoBulkAll {H : Type} : List (DataW H) → Nat
  | [] => 0
  | d :: r => uptoBulk d + uptoBulkAll r
def uptoBulkEntries {H : Type} : List (Lit × DataW H) → Nat
  | [] => 0
  | x :: r => uptoBulkEntry x + uptoBulkEntries r
def uptoBulkEntry {H : Type} : Lit × DataW H → Nat
  | (.string bytes, d) => bytes.length + uptoBulk d + 1
  | (_, d) => uptoBulk d + 1
 end
def uptoSmall : (H : Type) → List (DataW H) → Bool := fun _ ds => decide (uptoBulkAll ds ≤ 1048576)
def OpenSpec.upto (s : _root_.Go.ChangeSpec) : _root_.Go.OpenSpec := { _root_.Go.OpenSpec.ofChange s with cond := some uptoSmall }

/-- 'laws.FnRunCount', WHERE WHAT IT READS IS OF BULK AT MOST 1048576: true; the input reads as it did. -/
def fnRunCountUptoRow : OpenClaim := { program := "ytmjhopdonddpcab", sum := "77d62e080a7b3eb13278d4ccf9241bbc6fe7968200a17863fc99eb5027da2276", func := "loop.example/countedchances/laws.FnRunCount", spec := "fnRunCount", unfollowed := true, recurses := true, apart := false, narrowed := true }
def FnRunCountUptoSaid : Prop := fnRunCountUptoRow.holds Try.pinned (OpenSpec.upto fnRunCountSpec)

/-- 'laws.FnExactValidData', WHERE WHAT IT READS IS OF BULK AT MOST 1048576: true; the input reads as it did. -/
def fnExactValidDataUptoRow : OpenClaim := { program := "ytmjhopdonddpcab", sum := "77d62e080a7b3eb13278d4ccf9241bbc6fe7968200a17863fc99eb5027da2276", func := "loop.example/countedchances/laws.FnExactValidData", spec := "fnExactValidData", apart := false, narrowed := true }
def FnExactValidDataUptoSaid : Prop := fnExactValidDataUptoRow.holds Try.pinned (OpenSpec.upto fnExactValidDataSpec)

/-- 'laws.FnExactRanksOf', WHERE WHAT IT READS IS OF BULK AT MOST 1048576: true; the input reads as it did. -/
def fnExactRanksOfUptoRow : OpenClaim := { program := "ytmjhopdonddpcab", sum := "77d62e080a7b3eb13278d4ccf9241bbc6fe7968200a17863fc99eb5027da2276", func := "loop.example/countedchances/laws.FnExactRanksOf", spec := "fnExactRanksOf", apart := false, narrowed := true }
def FnExactRanksOfUptoSaid : Prop := fnExactRanksOfUptoRow.holds Try.pinned (OpenSpec.upto fnExactRanksOfSpec)

/-- 'laws.FnExactTiesOf', WHERE WHAT IT READS IS OF BULK AT MOST 1048576: true; the input reads as it did. -/
def fnExactTiesOfUptoRow : OpenClaim := { program := "ytmjhopdonddpcab", sum := "77d62e080a7b3eb13278d4ccf9241bbc6fe7968200a17863fc99eb5027da2276", func := "loop.example/countedchances/laws.FnExactTiesOf", spec := "fnExactTiesOf", recurses := true, apart := false, narrowed := true }
def FnExactTiesOfUptoSaid : Prop := fnExactTiesOfUptoRow.holds Try.pinned (OpenSpec.upto fnExactTiesOfSpec)

/-- 'laws.FnExactMiddleOf', WHERE WHAT IT READS IS OF BULK AT MOST 1048576: true; the input reads as it did. -/
def fnExactMiddleOfUptoRow : OpenClaim := { program := "ytmjhopdonddpcab", sum := "77d62e080a7b3eb13278d4ccf9241bbc6fe7968200a17863fc99eb5027da2276", func := "loop.example/countedchances/laws.FnExactMiddleOf", spec := "fnExactMiddleOf", recurses := true, apart := false, narrowed := true }
def FnExactMiddleOfUptoSaid : Prop := fnExactMiddleOfUptoRow.holds Try.pinned (OpenSpec.upto fnExactMiddleOfSpec)

/-- 'laws.FnExactAgreeOf', WHERE WHAT IT READS IS OF BULK AT MOST 1048576: true; the input reads as it did. -/
def fnExactAgreeOfUptoRow : OpenClaim := { program := "ytmjhopdonddpcab", sum := "77d62e080a7b3eb13278d4ccf9241bbc6fe7968200a17863fc99eb5027da2276", func := "loop.example/countedchances/laws.FnExactAgreeOf", spec := "fnExactAgreeOf", unfollowed := true, recurses := true, apart := false, narrowed := true }
def FnExactAgreeOfUptoSaid : Prop := fnExactAgreeOfUptoRow.holds Try.pinned (OpenSpec.upto fnExactAgreeOfSpec)

/-- 'laws.FnExactRankGap', WHERE WHAT IT READS IS OF BULK AT MOST 1048576: true; the input reads as it did. -/
def fnExactRankGapUptoRow : OpenClaim := { program := "ytmjhopdonddpcab", sum := "77d62e080a7b3eb13278d4ccf9241bbc6fe7968200a17863fc99eb5027da2276", func := "loop.example/countedchances/laws.FnExactRankGap", spec := "fnExactRankGap", apart := false, narrowed := true }
def FnExactRankGapUptoSaid : Prop := fnExactRankGapUptoRow.holds Try.pinned (OpenSpec.upto fnExactRankGapSpec)

/-- 'laws.FnExactFallCounts', WHERE WHAT IT READS IS OF BULK AT MOST 1048576: true; the input reads as it did. -/
def fnExactFallCountsUptoRow : OpenClaim := { program := "ytmjhopdonddpcab", sum := "77d62e080a7b3eb13278d4ccf9241bbc6fe7968200a17863fc99eb5027da2276", func := "loop.example/countedchances/laws.FnExactFallCounts", spec := "fnExactFallCounts", apart := false, narrowed := true }
def FnExactFallCountsUptoSaid : Prop := fnExactFallCountsUptoRow.holds Try.pinned (OpenSpec.upto fnExactFallCountsSpec)

/-- 'laws.FnExactAgreeChance', WHERE WHAT IT READS IS OF BULK AT MOST 1048576: true; the input reads as it did. -/
def fnExactAgreeChanceUptoRow : OpenClaim := { program := "ytmjhopdonddpcab", sum := "77d62e080a7b3eb13278d4ccf9241bbc6fe7968200a17863fc99eb5027da2276", func := "loop.example/countedchances/laws.FnExactAgreeChance", spec := "fnExactAgreeChance", apart := false, narrowed := true }
def FnExactAgreeChanceUptoSaid : Prop := fnExactAgreeChanceUptoRow.holds Try.pinned (OpenSpec.upto fnExactAgreeChanceSpec)

/-- 'laws.FnExactSplitChance', WHERE WHAT IT READS IS OF BULK AT MOST 1048576: true; the input reads as it did. -/
def fnExactSplitChanceUptoRow : OpenClaim := { program := "ytmjhopdonddpcab", sum := "77d62e080a7b3eb13278d4ccf9241bbc6fe7968200a17863fc99eb5027da2276", func := "loop.example/countedchances/laws.FnExactSplitChance", spec := "fnExactSplitChance", unfollowed := true, recurses := true, apart := false, narrowed := true }
def FnExactSplitChanceUptoSaid : Prop := fnExactSplitChanceUptoRow.holds Try.pinned (OpenSpec.upto fnExactSplitChanceSpec)

/-- 'laws.FnExactWinsOf', WHERE WHAT IT READS IS OF BULK AT MOST 1048576: true; the input reads as it did. -/
def fnExactWinsOfUptoRow : OpenClaim := { program := "ytmjhopdonddpcab", sum := "77d62e080a7b3eb13278d4ccf9241bbc6fe7968200a17863fc99eb5027da2276", func := "loop.example/countedchances/laws.FnExactWinsOf", spec := "fnExactWinsOf", apart := false, narrowed := true }
def FnExactWinsOfUptoSaid : Prop := fnExactWinsOfUptoRow.holds Try.pinned (OpenSpec.upto fnExactWinsOfSpec)

/-- 'laws.FnExactWinCounts', WHERE WHAT IT READS IS OF BULK AT MOST 1048576: true; the input reads as it did. -/
def fnExactWinCountsUptoRow : OpenClaim := { program := "ytmjhopdonddpcab", sum := "77d62e080a7b3eb13278d4ccf9241bbc6fe7968200a17863fc99eb5027da2276", func := "loop.example/countedchances/laws.FnExactWinCounts", spec := "fnExactWinCounts", unfollowed := true, recurses := true, apart := false, narrowed := true }
def FnExactWinCountsUptoSaid : Prop := fnExactWinCountsUptoRow.holds Try.pinned (OpenSpec.upto fnExactWinCountsSpec)

end Rows
end Go.Proofs.Ytmjhopdonddpcab
