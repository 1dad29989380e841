/-
  No cell of these rows narrows 'for every input' (looked for: loops, veiled, ifaces, maps, wideKeys, modest, calm, conditions, laid).
  DERIVED. THE GIVEN ROWS OF THIS SEAT. 12 by the template 'for every input the law returns true; each argument reads behind the call as it read before'; 0 by the template 'total and deterministic' (their statements: YtbkjijbmjacjnaaTotals.lean).
  GIVEN WITH THE SEED: the statements are not yours to turn. If you find one false, say at which input.
  Laid BY PROGRAM, IN A SANDBOX (cutbox-rows.mjs): the forced cells as the released guide's own fill.sh prints them over the translation a7cba1bfadb485bb… (all of the seat's roots in one cut). By AI agents, Wed Nov 11 2026. No macro, syntax, notation, axiom, sorry.
-/
import Derived.Test.YtbkjijbmjacjnaaChecked
import GoSem.Claim
import GoSem.ClaimJoined
import GoSem.ClaimMapViews
import Derived.JoinedTies
import Derived.KernelRfl
namespace Go.Proofs.Ytbkjijbmjacjnaa
/- THE CELL 'sum', in the pinned program and in every row, IS THE sha256 OF THE DUMP (.gsa) THAT YtbkjijbmjacjnaaProg.lean LOADS. Nothing in Lean hashes anything: it is a label: what it is worth is what the hold of that sum in a sandbox is worth. -/
noncomputable def Try.pinned : Pinned := { name := "ytbkjijbmjacjnaa", sum := "a7cba1bfadb485bb4707a9acc651e6f2ffd645032aef715f4ea477c2c4834f9d", checked := Try.checked }
namespace Rows
def none {H : Type} : Left H := { results := [], args := [] }

/-- 'laws.FnSplitChance': WHATEVER THE INPUT: true; the input reads as it did. -/
def fnSplitChanceSpec : ChangeSpec := { name := "fnSplitChance", fn := fun _ => fun
  | [d] => { results := [.lit (.bool true)], args := [d] }
  | _ => none }
def fnSplitChanceRow : OpenClaim := { program := "ytbkjijbmjacjnaa", sum := "a7cba1bfadb485bb4707a9acc651e6f2ffd645032aef715f4ea477c2c4834f9d", func := "loop.example/countedchances/laws.FnSplitChance", spec := "fnSplitChance", unfollowed := true, recurses := true, apart := false }
def FnSplitChanceSaid : Prop := fnSplitChanceRow.holds Try.pinned (OpenSpec.ofChange fnSplitChanceSpec)

/-- ITS FALSE NEIGHBOUR: 'it returns false'. Refute it at one input. -/
def fnSplitChanceWrong : ChangeSpec := { name := "fnSplitChance", fn := fun _ => fun
  | [d] => { results := [.lit (.bool false)], args := [d] }
  | _ => none }
def FnSplitChanceWrongFalsely : Prop := fnSplitChanceRow.holds Try.pinned (OpenSpec.ofChange fnSplitChanceWrong)

/-- 'laws.FnWinCounts': WHATEVER THE INPUT: true; the input reads as it did. -/
def fnWinCountsSpec : ChangeSpec := { name := "fnWinCounts", fn := fun _ => fun
  | [d] => { results := [.lit (.bool true)], args := [d] }
  | _ => none }
def fnWinCountsRow : OpenClaim := { program := "ytbkjijbmjacjnaa", sum := "a7cba1bfadb485bb4707a9acc651e6f2ffd645032aef715f4ea477c2c4834f9d", func := "loop.example/countedchances/laws.FnWinCounts", spec := "fnWinCounts", unfollowed := true, recurses := true, apart := false }
def FnWinCountsSaid : Prop := fnWinCountsRow.holds Try.pinned (OpenSpec.ofChange fnWinCountsSpec)

/-- ITS FALSE NEIGHBOUR: 'it returns false'. Refute it at one input. -/
def fnWinCountsWrong : ChangeSpec := { name := "fnWinCounts", fn := fun _ => fun
  | [d] => { results := [.lit (.bool false)], args := [d] }
  | _ => none }
def FnWinCountsWrongFalsely : Prop := fnWinCountsRow.holds Try.pinned (OpenSpec.ofChange fnWinCountsWrong)

/-- 'laws.FnRunCount': WHATEVER THE INPUT: true; the input reads as it did. -/
def fnRunCountSpec : ChangeSpec := { name := "fnRunCount", fn := fun _ => fun
  | [d] => { results := [.lit (.bool true)], args := [d] }
  | _ => none }
def fnRunCountRow : OpenClaim := { program := "ytbkjijbmjacjnaa", sum := "a7cba1bfadb485bb4707a9acc651e6f2ffd645032aef715f4ea477c2c4834f9d", func := "loop.example/countedchances/laws.FnRunCount", spec := "fnRunCount", unfollowed := true, recurses := true, apart := false }
def FnRunCountSaid : Prop := fnRunCountRow.holds Try.pinned (OpenSpec.ofChange fnRunCountSpec)

/-- ITS FALSE NEIGHBOUR: 'it returns false'. Refute it at one input. -/
def fnRunCountWrong : ChangeSpec := { name := "fnRunCount", fn := fun _ => fun
  | [d] => { results := [.lit (.bool false)], args := [d] }
  | _ => none }
def FnRunCountWrongFalsely : Prop := fnRunCountRow.holds Try.pinned (OpenSpec.ofChange fnRunCountWrong)

/-- 'laws.FnFourWays': WHATEVER THE INPUT: true; the input reads as it did. -/
def fnFourWaysSpec : ChangeSpec := { name := "fnFourWays", fn := fun _ => fun
  | [d] => { results := [.lit (.bool true)], args := [d] }
  | _ => none }
def fnFourWaysRow : OpenClaim := { program := "ytbkjijbmjacjnaa", sum := "a7cba1bfadb485bb4707a9acc651e6f2ffd645032aef715f4ea477c2c4834f9d", func := "loop.example/countedchances/laws.FnFourWays", spec := "fnFourWays", apart := false }
def FnFourWaysSaid : Prop := fnFourWaysRow.holds Try.pinned (OpenSpec.ofChange fnFourWaysSpec)

/-- ITS FALSE NEIGHBOUR: 'it returns false'. Refute it at one input. -/
def fnFourWaysWrong : ChangeSpec := { name := "fnFourWays", fn := fun _ => fun
  | [d] => { results := [.lit (.bool false)], args := [d] }
  | _ => none }
def FnFourWaysWrongFalsely : Prop := fnFourWaysRow.holds Try.pinned (OpenSpec.ofChange fnFourWaysWrong)

/-- 'laws.FnFoursLike': WHATEVER THE INPUT: true; the input reads as it did. -/
def fnFoursLikeSpec : ChangeSpec := { name := "fnFoursLike", fn := fun _ => fun
  | [d] => { results := [.lit (.bool true)], args := [d] }
  | _ => none }
def fnFoursLikeRow : OpenClaim := { program := "ytbkjijbmjacjnaa", sum := "a7cba1bfadb485bb4707a9acc651e6f2ffd645032aef715f4ea477c2c4834f9d", func := "loop.example/countedchances/laws.FnFoursLike", spec := "fnFoursLike", apart := false }
def FnFoursLikeSaid : Prop := fnFoursLikeRow.holds Try.pinned (OpenSpec.ofChange fnFoursLikeSpec)

/-- ITS FALSE NEIGHBOUR: 'it returns false'. Refute it at one input. -/
def fnFoursLikeWrong : ChangeSpec := { name := "fnFoursLike", fn := fun _ => fun
  | [d] => { results := [.lit (.bool false)], args := [d] }
  | _ => none }
def FnFoursLikeWrongFalsely : Prop := fnFoursLikeRow.holds Try.pinned (OpenSpec.ofChange fnFoursLikeWrong)

/-- 'laws.FnFourChance': WHATEVER THE INPUT: true; the input reads as it did. -/
def fnFourChanceSpec : ChangeSpec := { name := "fnFourChance", fn := fun _ => fun
  | [d] => { results := [.lit (.bool true)], args := [d] }
  | _ => none }
def fnFourChanceRow : OpenClaim := { program := "ytbkjijbmjacjnaa", sum := "a7cba1bfadb485bb4707a9acc651e6f2ffd645032aef715f4ea477c2c4834f9d", func := "loop.example/countedchances/laws.FnFourChance", spec := "fnFourChance", unfollowed := true, recurses := true, apart := false }
def FnFourChanceSaid : Prop := fnFourChanceRow.holds Try.pinned (OpenSpec.ofChange fnFourChanceSpec)

/-- ITS FALSE NEIGHBOUR: 'it returns false'. Refute it at one input. -/
def fnFourChanceWrong : ChangeSpec := { name := "fnFourChance", fn := fun _ => fun
  | [d] => { results := [.lit (.bool false)], args := [d] }
  | _ => none }
def FnFourChanceWrongFalsely : Prop := fnFourChanceRow.holds Try.pinned (OpenSpec.ofChange fnFourChanceWrong)

/-- 'laws.FnFourBoth': WHATEVER THE INPUT: true; the input reads as it did. -/
def fnFourBothSpec : ChangeSpec := { name := "fnFourBoth", fn := fun _ => fun
  | [d] => { results := [.lit (.bool true)], args := [d] }
  | _ => none }
def fnFourBothRow : OpenClaim := { program := "ytbkjijbmjacjnaa", sum := "a7cba1bfadb485bb4707a9acc651e6f2ffd645032aef715f4ea477c2c4834f9d", func := "loop.example/countedchances/laws.FnFourBoth", spec := "fnFourBoth", unfollowed := true, recurses := true, apart := false }
def FnFourBothSaid : Prop := fnFourBothRow.holds Try.pinned (OpenSpec.ofChange fnFourBothSpec)

/-- ITS FALSE NEIGHBOUR: 'it returns false'. Refute it at one input. -/
def fnFourBothWrong : ChangeSpec := { name := "fnFourBoth", fn := fun _ => fun
  | [d] => { results := [.lit (.bool false)], args := [d] }
  | _ => none }
def FnFourBothWrongFalsely : Prop := fnFourBothRow.holds Try.pinned (OpenSpec.ofChange fnFourBothWrong)

/-- 'laws.FnTablesWith': WHATEVER THE INPUT: true; the input reads as it did. -/
def fnTablesWithSpec : ChangeSpec := { name := "fnTablesWith", fn := fun _ => fun
  | [d] => { results := [.lit (.bool true)], args := [d] }
  | _ => none }
def fnTablesWithRow : OpenClaim := { program := "ytbkjijbmjacjnaa", sum := "a7cba1bfadb485bb4707a9acc651e6f2ffd645032aef715f4ea477c2c4834f9d", func := "loop.example/countedchances/laws.FnTablesWith", spec := "fnTablesWith", recurses := true, apart := false }
def FnTablesWithSaid : Prop := fnTablesWithRow.holds Try.pinned (OpenSpec.ofChange fnTablesWithSpec)

/-- ITS FALSE NEIGHBOUR: 'it returns false'. Refute it at one input. -/
def fnTablesWithWrong : ChangeSpec := { name := "fnTablesWith", fn := fun _ => fun
  | [d] => { results := [.lit (.bool false)], args := [d] }
  | _ => none }
def FnTablesWithWrongFalsely : Prop := fnTablesWithRow.holds Try.pinned (OpenSpec.ofChange fnTablesWithWrong)

/-- 'laws.FnChangeChance': WHATEVER THE INPUT: true; the input reads as it did. -/
def fnChangeChanceSpec : ChangeSpec := { name := "fnChangeChance", fn := fun _ => fun
  | [d] => { results := [.lit (.bool true)], args := [d] }
  | _ => none }
def fnChangeChanceRow : OpenClaim := { program := "ytbkjijbmjacjnaa", sum := "a7cba1bfadb485bb4707a9acc651e6f2ffd645032aef715f4ea477c2c4834f9d", func := "loop.example/countedchances/laws.FnChangeChance", spec := "fnChangeChance", apart := false }
def FnChangeChanceSaid : Prop := fnChangeChanceRow.holds Try.pinned (OpenSpec.ofChange fnChangeChanceSpec)

/-- ITS FALSE NEIGHBOUR: 'it returns false'. Refute it at one input. -/
def fnChangeChanceWrong : ChangeSpec := { name := "fnChangeChance", fn := fun _ => fun
  | [d] => { results := [.lit (.bool false)], args := [d] }
  | _ => none }
def FnChangeChanceWrongFalsely : Prop := fnChangeChanceRow.holds Try.pinned (OpenSpec.ofChange fnChangeChanceWrong)

/-- 'laws.FnExactSplitChance': WHATEVER THE INPUT: true; the input reads as it did. -/
def fnExactSplitChanceSpec : ChangeSpec := { name := "fnExactSplitChance", fn := fun _ => fun
  | [d1, d2] => { results := [.lit (.bool true)], args := [d1, d2] }
  | _ => none }
def fnExactSplitChanceRow : OpenClaim := { program := "ytbkjijbmjacjnaa", sum := "a7cba1bfadb485bb4707a9acc651e6f2ffd645032aef715f4ea477c2c4834f9d", func := "loop.example/countedchances/laws.FnExactSplitChance", spec := "fnExactSplitChance", unfollowed := true, recurses := true, apart := false }
def FnExactSplitChanceSaid : Prop := fnExactSplitChanceRow.holds Try.pinned (OpenSpec.ofChange fnExactSplitChanceSpec)

/-- ITS FALSE NEIGHBOUR: 'it returns false'. Refute it at one input. -/
def fnExactSplitChanceWrong : ChangeSpec := { name := "fnExactSplitChance", fn := fun _ => fun
  | [d1, d2] => { results := [.lit (.bool false)], args := [d1, d2] }
  | _ => none }
def FnExactSplitChanceWrongFalsely : Prop := fnExactSplitChanceRow.holds Try.pinned (OpenSpec.ofChange fnExactSplitChanceWrong)

/-- 'laws.FnExactWinCounts': WHATEVER THE INPUT: true; the input reads as it did. -/
def fnExactWinCountsSpec : ChangeSpec := { name := "fnExactWinCounts", fn := fun _ => fun
  | [d1, d2] => { results := [.lit (.bool true)], args := [d1, d2] }
  | _ => none }
def fnExactWinCountsRow : OpenClaim := { program := "ytbkjijbmjacjnaa", sum := "a7cba1bfadb485bb4707a9acc651e6f2ffd645032aef715f4ea477c2c4834f9d", func := "loop.example/countedchances/laws.FnExactWinCounts", spec := "fnExactWinCounts", unfollowed := true, recurses := true, apart := false }
def FnExactWinCountsSaid : Prop := fnExactWinCountsRow.holds Try.pinned (OpenSpec.ofChange fnExactWinCountsSpec)

/-- ITS FALSE NEIGHBOUR: 'it returns false'. Refute it at one input. -/
def fnExactWinCountsWrong : ChangeSpec := { name := "fnExactWinCounts", fn := fun _ => fun
  | [d1, d2] => { results := [.lit (.bool false)], args := [d1, d2] }
  | _ => none }
def FnExactWinCountsWrongFalsely : Prop := fnExactWinCountsRow.holds Try.pinned (OpenSpec.ofChange fnExactWinCountsWrong)

/-- 'laws.FnExactRunCount': WHATEVER THE INPUT: true; the input reads as it did. -/
def fnExactRunCountSpec : ChangeSpec := { name := "fnExactRunCount", fn := fun _ => fun
  | [d1, d2, d3] => { results := [.lit (.bool true)], args := [d1, d2, d3] }
  | _ => none }
def fnExactRunCountRow : OpenClaim := { program := "ytbkjijbmjacjnaa", sum := "a7cba1bfadb485bb4707a9acc651e6f2ffd645032aef715f4ea477c2c4834f9d", func := "loop.example/countedchances/laws.FnExactRunCount", spec := "fnExactRunCount", unfollowed := true, recurses := true, apart := false }
def FnExactRunCountSaid : Prop := fnExactRunCountRow.holds Try.pinned (OpenSpec.ofChange fnExactRunCountSpec)

/-- ITS FALSE NEIGHBOUR: 'it returns false'. Refute it at one input. -/
def fnExactRunCountWrong : ChangeSpec := { name := "fnExactRunCount", fn := fun _ => fun
  | [d1, d2, d3] => { results := [.lit (.bool false)], args := [d1, d2, d3] }
  | _ => none }
def FnExactRunCountWrongFalsely : Prop := fnExactRunCountRow.holds Try.pinned (OpenSpec.ofChange fnExactRunCountWrong)

/- THE SECOND FORM. 'bulk': how many values and letters a reading holds, each counted each time it is reached (what is shared counts as often as it is met; a slice's spare places count too). A statement '..UptoSaid' is the law's where the arguments, and the package variables that the reading takes, are together of bulk at most 1048576: NARROWER than '..Said'. Prove '..Said' where nothing that the law and all that it calls make is longer than what came in: it says more and counts as full. Else prove '..UptoSaid'. A law counts once. -/
mutual
def uptoBulk {H : Type} : DataW H → Nat
  | .lit (.string bytes) => bytes.length + 1
  | .lit _ => 1
  | .nil => 1
  | .ptr d => uptoBulk d + 1
  | .slice elems spare => uptoBulkAll elems + uptoBulkAll spare + 1
  | .agg parts => uptoBulkAll parts + 1
  | .iface _ d => uptoBulk d + 1
  | .map entries => uptoBulkEntries entries + 1
  | .held _ => 1
def uptoBulkAll {H : Type} : List (DataW H) → Nat
  | [] => 0
  | d :: r => uptoBulk d + uptoBulkAll r
def uptoBulkEntries {H : Type} : List (Lit × DataW H) → Nat
  | [] => 0
  | x :: r => uptoBulkEntry x + uptoBulkEntries r
def uptoBulkEntry {H : Type} : Lit × DataW H → Nat
  | (.string bytes, d) => bytes.length + uptoBulk d + 1
  | (_, d) => uptoBulk d + 1
 end
def uptoSmall : (H : Type) → List (DataW H) → Bool := fun _ ds => decide (uptoBulkAll ds ≤ 1048576)
def OpenSpec.upto (s : _root_.Go.ChangeSpec) : _root_.Go.OpenSpec := { _root_.Go.OpenSpec.ofChange s with cond := some uptoSmall }

/-- 'laws.FnSplitChance', WHERE WHAT IT READS IS OF BULK AT MOST 1048576: true; the input reads as it did. -/
def fnSplitChanceUptoRow : OpenClaim := { program := "ytbkjijbmjacjnaa", sum := "a7cba1bfadb485bb4707a9acc651e6f2ffd645032aef715f4ea477c2c4834f9d", func := "loop.example/countedchances/laws.FnSplitChance", spec := "fnSplitChance", unfollowed := true, recurses := true, apart := false, narrowed := true }
def FnSplitChanceUptoSaid : Prop := fnSplitChanceUptoRow.holds Try.pinned (OpenSpec.upto fnSplitChanceSpec)

/-- 'laws.FnWinCounts', WHERE WHAT IT READS IS OF BULK AT MOST 1048576: true; the input reads as it did. -/
def fnWinCountsUptoRow : OpenClaim := { program := "ytbkjijbmjacjnaa", sum := "a7cba1bfadb485bb4707a9acc651e6f2ffd645032aef715f4ea477c2c4834f9d", func := "loop.example/countedchances/laws.FnWinCounts", spec := "fnWinCounts", unfollowed := true, recurses := true, apart := false, narrowed := true }
def FnWinCountsUptoSaid : Prop := fnWinCountsUptoRow.holds Try.pinned (OpenSpec.upto fnWinCountsSpec)

/-- 'laws.FnRunCount', WHERE WHAT IT READS IS OF BULK AT MOST 1048576: true; the input reads as it did. -/
def fnRunCountUptoRow : OpenClaim := { program := "ytbkjijbmjacjnaa", sum := "a7cba1bfadb485bb4707a9acc651e6f2ffd645032aef715f4ea477c2c4834f9d", func := "loop.example/countedchances/laws.FnRunCount", spec := "fnRunCount", unfollowed := true, recurses := true, apart := false, narrowed := true }
def FnRunCountUptoSaid : Prop := fnRunCountUptoRow.holds Try.pinned (OpenSpec.upto fnRunCountSpec)

/-- 'laws.FnFourWays', WHERE WHAT IT READS IS OF BULK AT MOST 1048576: true; the input reads as it did. -/
def fnFourWaysUptoRow : OpenClaim := { program := "ytbkjijbmjacjnaa", sum := "a7cba1bfadb485bb4707a9acc651e6f2ffd645032aef715f4ea477c2c4834f9d", func := "loop.example/countedchances/laws.FnFourWays", spec := "fnFourWays", apart := false, narrowed := true }
def FnFourWaysUptoSaid : Prop := fnFourWaysUptoRow.holds Try.pinned (OpenSpec.upto fnFourWaysSpec)

/-- 'laws.FnFoursLike', WHERE WHAT IT READS IS OF BULK AT MOST 1048576: true; the input reads as it did. -/
def fnFoursLikeUptoRow : OpenClaim := { program := "ytbkjijbmjacjnaa", sum := "a7cba1bfadb485bb4707a9acc651e6f2ffd645032aef715f4ea477c2c4834f9d", func := "loop.example/countedchances/laws.FnFoursLike", spec := "fnFoursLike", apart := false, narrowed := true }
def FnFoursLikeUptoSaid : Prop := fnFoursLikeUptoRow.holds Try.pinned (OpenSpec.upto fnFoursLikeSpec)

/-- 'laws.FnFourChance', WHERE WHAT IT READS IS OF BULK AT MOST 1048576: true; the input reads as it did. -/
def fnFourChanceUptoRow : OpenClaim := { program := "ytbkjijbmjacjnaa", sum := "a7cba1bfadb485bb4707a9acc651e6f2ffd645032aef715f4ea477c2c4834f9d", func := "loop.example/countedchances/laws.FnFourChance", spec := "fnFourChance", unfollowed := true, recurses := true, apart := false, narrowed := true }
def FnFourChanceUptoSaid : Prop := fnFourChanceUptoRow.holds Try.pinned (OpenSpec.upto fnFourChanceSpec)

/-- 'laws.FnFourBoth', WHERE WHAT IT READS IS OF BULK AT MOST 1048576: true; the input reads as it did. -/
def fnFourBothUptoRow : OpenClaim := { program := "ytbkjijbmjacjnaa", sum := "a7cba1bfadb485bb4707a9acc651e6f2ffd645032aef715f4ea477c2c4834f9d", func := "loop.example/countedchances/laws.FnFourBoth", spec := "fnFourBoth", unfollowed := true, recurses := true, apart := false, narrowed := true }
def FnFourBothUptoSaid : Prop := fnFourBothUptoRow.holds Try.pinned (OpenSpec.upto fnFourBothSpec)

/-- 'laws.FnTablesWith', WHERE WHAT IT READS IS OF BULK AT MOST 1048576: true; the input reads as it did. -/
def fnTablesWithUptoRow : OpenClaim := { program := "ytbkjijbmjacjnaa", sum := "a7cba1bfadb485bb4707a9acc651e6f2ffd645032aef715f4ea477c2c4834f9d", func := "loop.example/countedchances/laws.FnTablesWith", spec := "fnTablesWith", recurses := true, apart := false, narrowed := true }
def FnTablesWithUptoSaid : Prop := fnTablesWithUptoRow.holds Try.pinned (OpenSpec.upto fnTablesWithSpec)

/-- 'laws.FnChangeChance', WHERE WHAT IT READS IS OF BULK AT MOST 1048576: true; the input reads as it did. -/
def fnChangeChanceUptoRow : OpenClaim := { program := "ytbkjijbmjacjnaa", sum := "a7cba1bfadb485bb4707a9acc651e6f2ffd645032aef715f4ea477c2c4834f9d", func := "loop.example/countedchances/laws.FnChangeChance", spec := "fnChangeChance", apart := false, narrowed := true }
def FnChangeChanceUptoSaid : Prop := fnChangeChanceUptoRow.holds Try.pinned (OpenSpec.upto fnChangeChanceSpec)

/-- 'laws.FnExactSplitChance', WHERE WHAT IT READS IS OF BULK AT MOST 1048576: true; the input reads as it did. -/
def fnExactSplitChanceUptoRow : OpenClaim := { program := "ytbkjijbmjacjnaa", sum := "a7cba1bfadb485bb4707a9acc651e6f2ffd645032aef715f4ea477c2c4834f9d", func := "loop.example/countedchances/laws.FnExactSplitChance", spec := "fnExactSplitChance", unfollowed := true, recurses := true, apart := false, narrowed := true }
def FnExactSplitChanceUptoSaid : Prop := fnExactSplitChanceUptoRow.holds Try.pinned (OpenSpec.upto fnExactSplitChanceSpec)

/-- 'laws.FnExactWinCounts', WHERE WHAT IT READS IS OF BULK AT MOST 1048576: true; the input reads as it did. -/
def fnExactWinCountsUptoRow : OpenClaim := { program := "ytbkjijbmjacjnaa", sum := "a7cba1bfadb485bb4707a9acc651e6f2ffd645032aef715f4ea477c2c4834f9d", func := "loop.example/countedchances/laws.FnExactWinCounts", spec := "fnExactWinCounts", unfollowed := true, recurses := true, apart := false, narrowed := true }
def FnExactWinCountsUptoSaid : Prop := fnExactWinCountsUptoRow.holds Try.pinned (OpenSpec.upto fnExactWinCountsSpec)

/-- 'laws.FnExactRunCount', WHERE WHAT IT READS IS OF BULK AT MOST 1048576: true; the input reads as it did. -/
def fnExactRunCountUptoRow : OpenClaim := { program := "ytbkjijbmjacjnaa", sum := "a7cba1bfadb485bb4707a9acc651e6f2ffd645032aef715f4ea477c2c4834f9d", func := "loop.example/countedchances/laws.FnExactRunCount", spec := "fnExactRunCount", unfollowed := true, recurses := true, apart := false, narrowed := true }
def FnExactRunCountUptoSaid : Prop := fnExactRunCountUptoRow.holds Try.pinned (OpenSpec.upto fnExactRunCountSpec)

end Rows
end Go.Proofs.Ytbkjijbmjacjnaa
