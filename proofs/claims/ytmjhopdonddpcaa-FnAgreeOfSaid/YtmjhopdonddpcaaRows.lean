/-
  No cell of these rows narrows 'for every input' (looked for: loops, veiled, ifaces, maps, wideKeys, modest, calm, conditions, laid).
  DERIVED. THE GIVEN ROWS OF THIS SEAT. 12 by the template 'for every input the law returns true; each argument reads behind the call as it read before'; 0 by the template 'total and deterministic' (their statements: YtmjhopdonddpcaaTotals.lean).
  GIVEN WITH THE SEED: the statements are not yours to turn. If you find one false, say at which input.
  Laid BY PROGRAM, IN A SANDBOX (cutbox-rows.mjs): the forced cells as the released guide's own fill.sh prints them over the translation ab702815abadc199… (all of the seat's roots in one cut). By AI agents, Wed Nov 11 2026. No macro, syntax, notation, axiom, sorry.
-/
import Derived.Test.YtmjhopdonddpcaaChecked
import GoSem.Claim
import GoSem.ClaimJoined
import GoSem.ClaimMapViews
import Derived.JoinedTies
import Derived.KernelRfl
namespace Go.Proofs.Ytmjhopdonddpcaa
/- THE CELL 'sum', in the pinned program and in every row, IS THE sha256 OF THE DUMP (.gsa) THAT YtmjhopdonddpcaaProg.lean LOADS. Nothing in Lean hashes anything: it is a label: what it is worth is what the hold of that sum in a sandbox is worth. -/
noncomputable def Try.pinned : Pinned := { name := "ytmjhopdonddpcaa", sum := "ab702815abadc19927542bedfff0f1c84b03b3c107fc81d57e86696975375bd3", checked := Try.checked }
namespace Rows
def none {H : Type} : Left H := { results := [], args := [] }

/-- 'laws.FnRanksOf': WHATEVER THE INPUT: true; the input reads as it did. -/
def fnRanksOfSpec : ChangeSpec := { name := "fnRanksOf", fn := fun _ => fun
  | [d] => { results := [.lit (.bool true)], args := [d] }
  | _ => none }
def fnRanksOfRow : OpenClaim := { program := "ytmjhopdonddpcaa", sum := "ab702815abadc19927542bedfff0f1c84b03b3c107fc81d57e86696975375bd3", func := "loop.example/countedchances/laws.FnRanksOf", spec := "fnRanksOf", apart := false }
def FnRanksOfSaid : Prop := fnRanksOfRow.holds Try.pinned (OpenSpec.ofChange fnRanksOfSpec)

/-- ITS FALSE NEIGHBOUR: 'it returns false'. Refute it at one input. -/
def fnRanksOfWrong : ChangeSpec := { name := "fnRanksOf", fn := fun _ => fun
  | [d] => { results := [.lit (.bool false)], args := [d] }
  | _ => none }
def FnRanksOfWrongFalsely : Prop := fnRanksOfRow.holds Try.pinned (OpenSpec.ofChange fnRanksOfWrong)

/-- 'laws.FnMiddleOf': WHATEVER THE INPUT: true; the input reads as it did. -/
def fnMiddleOfSpec : ChangeSpec := { name := "fnMiddleOf", fn := fun _ => fun
  | [d] => { results := [.lit (.bool true)], args := [d] }
  | _ => none }
def fnMiddleOfRow : OpenClaim := { program := "ytmjhopdonddpcaa", sum := "ab702815abadc19927542bedfff0f1c84b03b3c107fc81d57e86696975375bd3", func := "loop.example/countedchances/laws.FnMiddleOf", spec := "fnMiddleOf", recurses := true, apart := false }
def FnMiddleOfSaid : Prop := fnMiddleOfRow.holds Try.pinned (OpenSpec.ofChange fnMiddleOfSpec)

/-- ITS FALSE NEIGHBOUR: 'it returns false'. Refute it at one input. -/
def fnMiddleOfWrong : ChangeSpec := { name := "fnMiddleOf", fn := fun _ => fun
  | [d] => { results := [.lit (.bool false)], args := [d] }
  | _ => none }
def FnMiddleOfWrongFalsely : Prop := fnMiddleOfRow.holds Try.pinned (OpenSpec.ofChange fnMiddleOfWrong)

/-- 'laws.FnAgreeOf': WHATEVER THE INPUT: true; the input reads as it did. -/
def fnAgreeOfSpec : ChangeSpec := { name := "fnAgreeOf", fn := fun _ => fun
  | [d] => { results := [.lit (.bool true)], args := [d] }
  | _ => none }
def fnAgreeOfRow : OpenClaim := { program := "ytmjhopdonddpcaa", sum := "ab702815abadc19927542bedfff0f1c84b03b3c107fc81d57e86696975375bd3", func := "loop.example/countedchances/laws.FnAgreeOf", spec := "fnAgreeOf", unfollowed := true, recurses := true, apart := false }
def FnAgreeOfSaid : Prop := fnAgreeOfRow.holds Try.pinned (OpenSpec.ofChange fnAgreeOfSpec)

/-- ITS FALSE NEIGHBOUR: 'it returns false'. Refute it at one input. -/
def fnAgreeOfWrong : ChangeSpec := { name := "fnAgreeOf", fn := fun _ => fun
  | [d] => { results := [.lit (.bool false)], args := [d] }
  | _ => none }
def FnAgreeOfWrongFalsely : Prop := fnAgreeOfRow.holds Try.pinned (OpenSpec.ofChange fnAgreeOfWrong)

/-- 'laws.FnRankGap': WHATEVER THE INPUT: true; the input reads as it did. -/
def fnRankGapSpec : ChangeSpec := { name := "fnRankGap", fn := fun _ => fun
  | [d] => { results := [.lit (.bool true)], args := [d] }
  | _ => none }
def fnRankGapRow : OpenClaim := { program := "ytmjhopdonddpcaa", sum := "ab702815abadc19927542bedfff0f1c84b03b3c107fc81d57e86696975375bd3", func := "loop.example/countedchances/laws.FnRankGap", spec := "fnRankGap", apart := false }
def FnRankGapSaid : Prop := fnRankGapRow.holds Try.pinned (OpenSpec.ofChange fnRankGapSpec)

/-- ITS FALSE NEIGHBOUR: 'it returns false'. Refute it at one input. -/
def fnRankGapWrong : ChangeSpec := { name := "fnRankGap", fn := fun _ => fun
  | [d] => { results := [.lit (.bool false)], args := [d] }
  | _ => none }
def FnRankGapWrongFalsely : Prop := fnRankGapRow.holds Try.pinned (OpenSpec.ofChange fnRankGapWrong)

/-- 'laws.FnFallCounts': WHATEVER THE INPUT: true; the input reads as it did. -/
def fnFallCountsSpec : ChangeSpec := { name := "fnFallCounts", fn := fun _ => fun
  | [d] => { results := [.lit (.bool true)], args := [d] }
  | _ => none }
def fnFallCountsRow : OpenClaim := { program := "ytmjhopdonddpcaa", sum := "ab702815abadc19927542bedfff0f1c84b03b3c107fc81d57e86696975375bd3", func := "loop.example/countedchances/laws.FnFallCounts", spec := "fnFallCounts", apart := false }
def FnFallCountsSaid : Prop := fnFallCountsRow.holds Try.pinned (OpenSpec.ofChange fnFallCountsSpec)

/-- ITS FALSE NEIGHBOUR: 'it returns false'. Refute it at one input. -/
def fnFallCountsWrong : ChangeSpec := { name := "fnFallCounts", fn := fun _ => fun
  | [d] => { results := [.lit (.bool false)], args := [d] }
  | _ => none }
def FnFallCountsWrongFalsely : Prop := fnFallCountsRow.holds Try.pinned (OpenSpec.ofChange fnFallCountsWrong)

/-- 'laws.FnAgreeChance': WHATEVER THE INPUT: true; the input reads as it did. -/
def fnAgreeChanceSpec : ChangeSpec := { name := "fnAgreeChance", fn := fun _ => fun
  | [d] => { results := [.lit (.bool true)], args := [d] }
  | _ => none }
def fnAgreeChanceRow : OpenClaim := { program := "ytmjhopdonddpcaa", sum := "ab702815abadc19927542bedfff0f1c84b03b3c107fc81d57e86696975375bd3", func := "loop.example/countedchances/laws.FnAgreeChance", spec := "fnAgreeChance", apart := false }
def FnAgreeChanceSaid : Prop := fnAgreeChanceRow.holds Try.pinned (OpenSpec.ofChange fnAgreeChanceSpec)

/-- ITS FALSE NEIGHBOUR: 'it returns false'. Refute it at one input. -/
def fnAgreeChanceWrong : ChangeSpec := { name := "fnAgreeChance", fn := fun _ => fun
  | [d] => { results := [.lit (.bool false)], args := [d] }
  | _ => none }
def FnAgreeChanceWrongFalsely : Prop := fnAgreeChanceRow.holds Try.pinned (OpenSpec.ofChange fnAgreeChanceWrong)

/-- 'laws.FnSplitChance': WHATEVER THE INPUT: true; the input reads as it did. -/
def fnSplitChanceSpec : ChangeSpec := { name := "fnSplitChance", fn := fun _ => fun
  | [d] => { results := [.lit (.bool true)], args := [d] }
  | _ => none }
def fnSplitChanceRow : OpenClaim := { program := "ytmjhopdonddpcaa", sum := "ab702815abadc19927542bedfff0f1c84b03b3c107fc81d57e86696975375bd3", func := "loop.example/countedchances/laws.FnSplitChance", spec := "fnSplitChance", unfollowed := true, recurses := true, apart := false }
def FnSplitChanceSaid : Prop := fnSplitChanceRow.holds Try.pinned (OpenSpec.ofChange fnSplitChanceSpec)

/-- ITS FALSE NEIGHBOUR: 'it returns false'. Refute it at one input. -/
def fnSplitChanceWrong : ChangeSpec := { name := "fnSplitChance", fn := fun _ => fun
  | [d] => { results := [.lit (.bool false)], args := [d] }
  | _ => none }
def FnSplitChanceWrongFalsely : Prop := fnSplitChanceRow.holds Try.pinned (OpenSpec.ofChange fnSplitChanceWrong)

/-- 'laws.FnWinsOf': WHATEVER THE INPUT: true; the input reads as it did. -/
def fnWinsOfSpec : ChangeSpec := { name := "fnWinsOf", fn := fun _ => fun
  | [d] => { results := [.lit (.bool true)], args := [d] }
  | _ => none }
def fnWinsOfRow : OpenClaim := { program := "ytmjhopdonddpcaa", sum := "ab702815abadc19927542bedfff0f1c84b03b3c107fc81d57e86696975375bd3", func := "loop.example/countedchances/laws.FnWinsOf", spec := "fnWinsOf", apart := false }
def FnWinsOfSaid : Prop := fnWinsOfRow.holds Try.pinned (OpenSpec.ofChange fnWinsOfSpec)

/-- ITS FALSE NEIGHBOUR: 'it returns false'. Refute it at one input. -/
def fnWinsOfWrong : ChangeSpec := { name := "fnWinsOf", fn := fun _ => fun
  | [d] => { results := [.lit (.bool false)], args := [d] }
  | _ => none }
def FnWinsOfWrongFalsely : Prop := fnWinsOfRow.holds Try.pinned (OpenSpec.ofChange fnWinsOfWrong)

/-- 'laws.FnWinCounts': WHATEVER THE INPUT: true; the input reads as it did. -/
def fnWinCountsSpec : ChangeSpec := { name := "fnWinCounts", fn := fun _ => fun
  | [d] => { results := [.lit (.bool true)], args := [d] }
  | _ => none }
def fnWinCountsRow : OpenClaim := { program := "ytmjhopdonddpcaa", sum := "ab702815abadc19927542bedfff0f1c84b03b3c107fc81d57e86696975375bd3", func := "loop.example/countedchances/laws.FnWinCounts", spec := "fnWinCounts", unfollowed := true, recurses := true, apart := false }
def FnWinCountsSaid : Prop := fnWinCountsRow.holds Try.pinned (OpenSpec.ofChange fnWinCountsSpec)

/-- ITS FALSE NEIGHBOUR: 'it returns false'. Refute it at one input. -/
def fnWinCountsWrong : ChangeSpec := { name := "fnWinCounts", fn := fun _ => fun
  | [d] => { results := [.lit (.bool false)], args := [d] }
  | _ => none }
def FnWinCountsWrongFalsely : Prop := fnWinCountsRow.holds Try.pinned (OpenSpec.ofChange fnWinCountsWrong)

/-- 'laws.FnFlipChance': WHATEVER THE INPUT: true; the input reads as it did. -/
def fnFlipChanceSpec : ChangeSpec := { name := "fnFlipChance", fn := fun _ => fun
  | [d] => { results := [.lit (.bool true)], args := [d] }
  | _ => none }
def fnFlipChanceRow : OpenClaim := { program := "ytmjhopdonddpcaa", sum := "ab702815abadc19927542bedfff0f1c84b03b3c107fc81d57e86696975375bd3", func := "loop.example/countedchances/laws.FnFlipChance", spec := "fnFlipChance", recurses := true, apart := false }
def FnFlipChanceSaid : Prop := fnFlipChanceRow.holds Try.pinned (OpenSpec.ofChange fnFlipChanceSpec)

/-- ITS FALSE NEIGHBOUR: 'it returns false'. Refute it at one input. -/
def fnFlipChanceWrong : ChangeSpec := { name := "fnFlipChance", fn := fun _ => fun
  | [d] => { results := [.lit (.bool false)], args := [d] }
  | _ => none }
def FnFlipChanceWrongFalsely : Prop := fnFlipChanceRow.holds Try.pinned (OpenSpec.ofChange fnFlipChanceWrong)

/-- 'laws.FnSignedRanks': WHATEVER THE INPUT: true; the input reads as it did. -/
def fnSignedRanksSpec : ChangeSpec := { name := "fnSignedRanks", fn := fun _ => fun
  | [d] => { results := [.lit (.bool true)], args := [d] }
  | _ => none }
def fnSignedRanksRow : OpenClaim := { program := "ytmjhopdonddpcaa", sum := "ab702815abadc19927542bedfff0f1c84b03b3c107fc81d57e86696975375bd3", func := "loop.example/countedchances/laws.FnSignedRanks", spec := "fnSignedRanks", apart := false }
def FnSignedRanksSaid : Prop := fnSignedRanksRow.holds Try.pinned (OpenSpec.ofChange fnSignedRanksSpec)

/-- ITS FALSE NEIGHBOUR: 'it returns false'. Refute it at one input. -/
def fnSignedRanksWrong : ChangeSpec := { name := "fnSignedRanks", fn := fun _ => fun
  | [d] => { results := [.lit (.bool false)], args := [d] }
  | _ => none }
def FnSignedRanksWrongFalsely : Prop := fnSignedRanksRow.holds Try.pinned (OpenSpec.ofChange fnSignedRanksWrong)

/-- 'laws.FnRankSums': WHATEVER THE INPUT: true; the input reads as it did. -/
def fnRankSumsSpec : ChangeSpec := { name := "fnRankSums", fn := fun _ => fun
  | [d] => { results := [.lit (.bool true)], args := [d] }
  | _ => none }
def fnRankSumsRow : OpenClaim := { program := "ytmjhopdonddpcaa", sum := "ab702815abadc19927542bedfff0f1c84b03b3c107fc81d57e86696975375bd3", func := "loop.example/countedchances/laws.FnRankSums", spec := "fnRankSums", apart := false }
def FnRankSumsSaid : Prop := fnRankSumsRow.holds Try.pinned (OpenSpec.ofChange fnRankSumsSpec)

/-- ITS FALSE NEIGHBOUR: 'it returns false'. Refute it at one input. -/
def fnRankSumsWrong : ChangeSpec := { name := "fnRankSums", fn := fun _ => fun
  | [d] => { results := [.lit (.bool false)], args := [d] }
  | _ => none }
def FnRankSumsWrongFalsely : Prop := fnRankSumsRow.holds Try.pinned (OpenSpec.ofChange fnRankSumsWrong)

/- THE SECOND FORM. 'bulk': how many values and letters a reading holds, each counted each time it is reached (what is shared counts as often as it is met; a slice's spare places count too). A statement '..UptoSaid' is the law's where the arguments, and the package variables that the reading takes, are together of bulk at most 1048576: NARROWER than '..Said'. Prove '..Said' where nothing that the law and all that it calls make is longer than what came in: it says more and counts as full. Else prove '..UptoSaid'. A law counts once. -/
mutual
def uptoBulk {H : Type} : DataW H → Nat
  | .lit (.string bytes) => bytes.length + 1
  | .lit _ => 1
  | .nil => 1
  | .ptr d => uptoBulk d + 1
  | .slice elems spare => uptoBulkAll elems + uptoBulkAll spare + 1
  | .agg parts => uptoBulkAll parts + 1
  | .iface _ d => uptoBulk d + 1
  | .map entries => uptoBulkEntries entries + 1
  | .held _ => 1
def uptoBulkAll {H : Type} : List (DataW H) → Nat
  | [] => 0
  | d :: r => uptoBulk d + uptoBulkAll r
def uptoBulkEntries {H : Type} : List (Lit × DataW H) → Nat
  | [] => 0
  | x :: r => uptoBulkEntry x + uptoBulkEntries r
def uptoBulkEntry {H : Type} : Lit × DataW H → Nat
  | (.string bytes, d) => bytes.length + uptoBulk d + 1
  | (_, d) => uptoBulk d + 1
 end
def uptoSmall : (H : Type) → List (DataW H) → Bool := fun _ ds => decide (uptoBulkAll ds ≤ 1048576)
def OpenSpec.upto (s : _root_.Go.ChangeSpec) : _root_.Go.OpenSpec := { _root_.Go.OpenSpec.ofChange s with cond := some uptoSmall }

/-- 'laws.FnRanksOf', WHERE WHAT IT READS IS OF BULK AT MOST 1048576: true; the input reads as it did. -/
def fnRanksOfUptoRow : OpenClaim := { program := "ytmjhopdonddpcaa", sum := "ab702815abadc19927542bedfff0f1c84b03b3c107fc81d57e86696975375bd3", func := "loop.example/countedchances/laws.FnRanksOf", spec := "fnRanksOf", apart := false, narrowed := true }
def FnRanksOfUptoSaid : Prop := fnRanksOfUptoRow.holds Try.pinned (OpenSpec.upto fnRanksOfSpec)

/-- 'laws.FnMiddleOf', WHERE WHAT IT READS IS OF BULK AT MOST 1048576: true; the input reads as it did. -/
def fnMiddleOfUptoRow : OpenClaim := { program := "ytmjhopdonddpcaa", sum := "ab702815abadc19927542bedfff0f1c84b03b3c107fc81d57e86696975375bd3", func := "loop.example/countedchances/laws.FnMiddleOf", spec := "fnMiddleOf", recurses := true, apart := false, narrowed := true }
def FnMiddleOfUptoSaid : Prop := fnMiddleOfUptoRow.holds Try.pinned (OpenSpec.upto fnMiddleOfSpec)

/-- 'laws.FnAgreeOf', WHERE WHAT IT READS IS OF BULK AT MOST 1048576: true; the input reads as it did. -/
def fnAgreeOfUptoRow : OpenClaim := { program := "ytmjhopdonddpcaa", sum := "ab702815abadc19927542bedfff0f1c84b03b3c107fc81d57e86696975375bd3", func := "loop.example/countedchances/laws.FnAgreeOf", spec := "fnAgreeOf", unfollowed := true, recurses := true, apart := false, narrowed := true }
def FnAgreeOfUptoSaid : Prop := fnAgreeOfUptoRow.holds Try.pinned (OpenSpec.upto fnAgreeOfSpec)

/-- 'laws.FnRankGap', WHERE WHAT IT READS IS OF BULK AT MOST 1048576: true; the input reads as it did. -/
def fnRankGapUptoRow : OpenClaim := { program := "ytmjhopdonddpcaa", sum := "ab702815abadc19927542bedfff0f1c84b03b3c107fc81d57e86696975375bd3", func := "loop.example/countedchances/laws.FnRankGap", spec := "fnRankGap", apart := false, narrowed := true }
def FnRankGapUptoSaid : Prop := fnRankGapUptoRow.holds Try.pinned (OpenSpec.upto fnRankGapSpec)

/-- 'laws.FnFallCounts', WHERE WHAT IT READS IS OF BULK AT MOST 1048576: true; the input reads as it did. -/
def fnFallCountsUptoRow : OpenClaim := { program := "ytmjhopdonddpcaa", sum := "ab702815abadc19927542bedfff0f1c84b03b3c107fc81d57e86696975375bd3", func := "loop.example/countedchances/laws.FnFallCounts", spec := "fnFallCounts", apart := false, narrowed := true }
def FnFallCountsUptoSaid : Prop := fnFallCountsUptoRow.holds Try.pinned (OpenSpec.upto fnFallCountsSpec)

/-- 'laws.FnAgreeChance', WHERE WHAT IT READS IS OF BULK AT MOST 1048576: true; the input reads as it did. -/
def fnAgreeChanceUptoRow : OpenClaim := { program := "ytmjhopdonddpcaa", sum := "ab702815abadc19927542bedfff0f1c84b03b3c107fc81d57e86696975375bd3", func := "loop.example/countedchances/laws.FnAgreeChance", spec := "fnAgreeChance", apart := false, narrowed := true }
def FnAgreeChanceUptoSaid : Prop := fnAgreeChanceUptoRow.holds Try.pinned (OpenSpec.upto fnAgreeChanceSpec)

/-- 'laws.FnSplitChance', WHERE WHAT IT READS IS OF BULK AT MOST 1048576: true; the input reads as it did. -/
def fnSplitChanceUptoRow : OpenClaim := { program := "ytmjhopdonddpcaa", sum := "ab702815abadc19927542bedfff0f1c84b03b3c107fc81d57e86696975375bd3", func := "loop.example/countedchances/laws.FnSplitChance", spec := "fnSplitChance", unfollowed := true, recurses := true, apart := false, narrowed := true }
def FnSplitChanceUptoSaid : Prop := fnSplitChanceUptoRow.holds Try.pinned (OpenSpec.upto fnSplitChanceSpec)

/-- 'laws.FnWinsOf', WHERE WHAT IT READS IS OF BULK AT MOST 1048576: true; the input reads as it did. -/
def fnWinsOfUptoRow : OpenClaim := { program := "ytmjhopdonddpcaa", sum := "ab702815abadc19927542bedfff0f1c84b03b3c107fc81d57e86696975375bd3", func := "loop.example/countedchances/laws.FnWinsOf", spec := "fnWinsOf", apart := false, narrowed := true }
def FnWinsOfUptoSaid : Prop := fnWinsOfUptoRow.holds Try.pinned (OpenSpec.upto fnWinsOfSpec)

/-- 'laws.FnWinCounts', WHERE WHAT IT READS IS OF BULK AT MOST 1048576: true; the input reads as it did. -/
def fnWinCountsUptoRow : OpenClaim := { program := "ytmjhopdonddpcaa", sum := "ab702815abadc19927542bedfff0f1c84b03b3c107fc81d57e86696975375bd3", func := "loop.example/countedchances/laws.FnWinCounts", spec := "fnWinCounts", unfollowed := true, recurses := true, apart := false, narrowed := true }
def FnWinCountsUptoSaid : Prop := fnWinCountsUptoRow.holds Try.pinned (OpenSpec.upto fnWinCountsSpec)

/-- 'laws.FnFlipChance', WHERE WHAT IT READS IS OF BULK AT MOST 1048576: true; the input reads as it did. -/
def fnFlipChanceUptoRow : OpenClaim := { program := "ytmjhopdonddpcaa", sum := "ab702815abadc19927542bedfff0f1c84b03b3c107fc81d57e86696975375bd3", func := "loop.example/countedchances/laws.FnFlipChance", spec := "fnFlipChance", recurses := true, apart := false, narrowed := true }
def FnFlipChanceUptoSaid : Prop := fnFlipChanceUptoRow.holds Try.pinned (OpenSpec.upto fnFlipChanceSpec)

/-- 'laws.FnSignedRanks', WHERE WHAT IT READS IS OF BULK AT MOST 1048576: true; the input reads as it did. -/
def fnSignedRanksUptoRow : OpenClaim := { program := "ytmjhopdonddpcaa", sum := "ab702815abadc19927542bedfff0f1c84b03b3c107fc81d57e86696975375bd3", func := "loop.example/countedchances/laws.FnSignedRanks", spec := "fnSignedRanks", apart := false, narrowed := true }
def FnSignedRanksUptoSaid : Prop := fnSignedRanksUptoRow.holds Try.pinned (OpenSpec.upto fnSignedRanksSpec)

/-- 'laws.FnRankSums', WHERE WHAT IT READS IS OF BULK AT MOST 1048576: true; the input reads as it did. -/
def fnRankSumsUptoRow : OpenClaim := { program := "ytmjhopdonddpcaa", sum := "ab702815abadc19927542bedfff0f1c84b03b3c107fc81d57e86696975375bd3", func := "loop.example/countedchances/laws.FnRankSums", spec := "fnRankSums", apart := false, narrowed := true }
def FnRankSumsUptoSaid : Prop := fnRankSumsUptoRow.holds Try.pinned (OpenSpec.upto fnRankSumsSpec)

end Rows
end Go.Proofs.Ytmjhopdonddpcaa
