/-
  No cell of these rows narrows 'for every input' (looked for: loops, veiled, ifaces, maps, wideKeys, modest, calm, conditions, laid).
  DERIVED. THE GIVEN ROWS OF THIS SEAT. 6 by the template 'for every input the law returns true; each argument reads behind the call as it read before'; 0 by the template 'total and deterministic' (their statements: YtbkjijbmjacjnabTotals.lean).
  GIVEN WITH THE SEED: the statements are not yours to turn. If you find one false, say at which input.
  Laid BY PROGRAM, IN A SANDBOX (cutbox-rows.mjs): the forced cells as the released guide's own fill.sh prints them over the translation 2a036cdb327f7e62… (all of the seat's roots in one cut). By AI agents, Wed Nov 11 2026. No macro, syntax, notation, axiom, sorry.
-/
import Derived.Test.YtbkjijbmjacjnabChecked
import GoSem.Claim
import GoSem.ClaimJoined
import GoSem.ClaimMapViews
import Derived.JoinedTies
import Derived.KernelRfl
namespace Go.Proofs.Ytbkjijbmjacjnab
/- THE CELL 'sum', in the pinned program and in every row, IS THE sha256 OF THE DUMP (.gsa) THAT YtbkjijbmjacjnabProg.lean LOADS. Nothing in Lean hashes anything: it is a label: what it is worth is what the hold of that sum in a sandbox is worth. -/
noncomputable def Try.pinned : Pinned := { name := "ytbkjijbmjacjnab", sum := "2a036cdb327f7e623bbb71cd073bbc1808117e8b97a77982fd4cea5a4cc03338", checked := Try.checked }
namespace Rows
def none {H : Type} : Left H := { results := [], args := [] }

/-- 'laws.FnExactFourWays': WHATEVER THE INPUT: true; the input reads as it did. -/
def fnExactFourWaysSpec : ChangeSpec := { name := "fnExactFourWays", fn := fun _ => fun
  | [d] => { results := [.lit (.bool true)], args := [d] }
  | _ => none }
def fnExactFourWaysRow : OpenClaim := { program := "ytbkjijbmjacjnab", sum := "2a036cdb327f7e623bbb71cd073bbc1808117e8b97a77982fd4cea5a4cc03338", func := "loop.example/countedchances/laws.FnExactFourWays", spec := "fnExactFourWays", apart := false }
def FnExactFourWaysSaid : Prop := fnExactFourWaysRow.holds Try.pinned (OpenSpec.ofChange fnExactFourWaysSpec)

/-- ITS FALSE NEIGHBOUR: 'it returns false'. Refute it at one input. -/
def fnExactFourWaysWrong : ChangeSpec := { name := "fnExactFourWays", fn := fun _ => fun
  | [d] => { results := [.lit (.bool false)], args := [d] }
  | _ => none }
def FnExactFourWaysWrongFalsely : Prop := fnExactFourWaysRow.holds Try.pinned (OpenSpec.ofChange fnExactFourWaysWrong)

/-- 'laws.FnExactFoursLike': WHATEVER THE INPUT: true; the input reads as it did. -/
def fnExactFoursLikeSpec : ChangeSpec := { name := "fnExactFoursLike", fn := fun _ => fun
  | [d] => { results := [.lit (.bool true)], args := [d] }
  | _ => none }
def fnExactFoursLikeRow : OpenClaim := { program := "ytbkjijbmjacjnab", sum := "2a036cdb327f7e623bbb71cd073bbc1808117e8b97a77982fd4cea5a4cc03338", func := "loop.example/countedchances/laws.FnExactFoursLike", spec := "fnExactFoursLike", apart := false }
def FnExactFoursLikeSaid : Prop := fnExactFoursLikeRow.holds Try.pinned (OpenSpec.ofChange fnExactFoursLikeSpec)

/-- ITS FALSE NEIGHBOUR: 'it returns false'. Refute it at one input. -/
def fnExactFoursLikeWrong : ChangeSpec := { name := "fnExactFoursLike", fn := fun _ => fun
  | [d] => { results := [.lit (.bool false)], args := [d] }
  | _ => none }
def FnExactFoursLikeWrongFalsely : Prop := fnExactFoursLikeRow.holds Try.pinned (OpenSpec.ofChange fnExactFoursLikeWrong)

/-- 'laws.FnExactFourChance': WHATEVER THE INPUT: true; the input reads as it did. -/
def fnExactFourChanceSpec : ChangeSpec := { name := "fnExactFourChance", fn := fun _ => fun
  | [d] => { results := [.lit (.bool true)], args := [d] }
  | _ => none }
def fnExactFourChanceRow : OpenClaim := { program := "ytbkjijbmjacjnab", sum := "2a036cdb327f7e623bbb71cd073bbc1808117e8b97a77982fd4cea5a4cc03338", func := "loop.example/countedchances/laws.FnExactFourChance", spec := "fnExactFourChance", unfollowed := true, recurses := true, apart := false }
def FnExactFourChanceSaid : Prop := fnExactFourChanceRow.holds Try.pinned (OpenSpec.ofChange fnExactFourChanceSpec)

/-- ITS FALSE NEIGHBOUR: 'it returns false'. Refute it at one input. -/
def fnExactFourChanceWrong : ChangeSpec := { name := "fnExactFourChance", fn := fun _ => fun
  | [d] => { results := [.lit (.bool false)], args := [d] }
  | _ => none }
def FnExactFourChanceWrongFalsely : Prop := fnExactFourChanceRow.holds Try.pinned (OpenSpec.ofChange fnExactFourChanceWrong)

/-- 'laws.FnExactFourBoth': WHATEVER THE INPUT: true; the input reads as it did. -/
def fnExactFourBothSpec : ChangeSpec := { name := "fnExactFourBoth", fn := fun _ => fun
  | [d] => { results := [.lit (.bool true)], args := [d] }
  | _ => none }
def fnExactFourBothRow : OpenClaim := { program := "ytbkjijbmjacjnab", sum := "2a036cdb327f7e623bbb71cd073bbc1808117e8b97a77982fd4cea5a4cc03338", func := "loop.example/countedchances/laws.FnExactFourBoth", spec := "fnExactFourBoth", unfollowed := true, recurses := true, apart := false }
def FnExactFourBothSaid : Prop := fnExactFourBothRow.holds Try.pinned (OpenSpec.ofChange fnExactFourBothSpec)

/-- ITS FALSE NEIGHBOUR: 'it returns false'. Refute it at one input. -/
def fnExactFourBothWrong : ChangeSpec := { name := "fnExactFourBoth", fn := fun _ => fun
  | [d] => { results := [.lit (.bool false)], args := [d] }
  | _ => none }
def FnExactFourBothWrongFalsely : Prop := fnExactFourBothRow.holds Try.pinned (OpenSpec.ofChange fnExactFourBothWrong)

/-- 'laws.FnExactTablesWith': WHATEVER THE INPUT: true; the input reads as it did. -/
def fnExactTablesWithSpec : ChangeSpec := { name := "fnExactTablesWith", fn := fun _ => fun
  | [d1, d2] => { results := [.lit (.bool true)], args := [d1, d2] }
  | _ => none }
def fnExactTablesWithRow : OpenClaim := { program := "ytbkjijbmjacjnab", sum := "2a036cdb327f7e623bbb71cd073bbc1808117e8b97a77982fd4cea5a4cc03338", func := "loop.example/countedchances/laws.FnExactTablesWith", spec := "fnExactTablesWith", recurses := true, apart := false }
def FnExactTablesWithSaid : Prop := fnExactTablesWithRow.holds Try.pinned (OpenSpec.ofChange fnExactTablesWithSpec)

/-- ITS FALSE NEIGHBOUR: 'it returns false'. Refute it at one input. -/
def fnExactTablesWithWrong : ChangeSpec := { name := "fnExactTablesWith", fn := fun _ => fun
  | [d1, d2] => { results := [.lit (.bool false)], args := [d1, d2] }
  | _ => none }
def FnExactTablesWithWrongFalsely : Prop := fnExactTablesWithRow.holds Try.pinned (OpenSpec.ofChange fnExactTablesWithWrong)

/-- 'laws.FnExactChangeChance': WHATEVER THE INPUT: true; the input reads as it did. -/
def fnExactChangeChanceSpec : ChangeSpec := { name := "fnExactChangeChance", fn := fun _ => fun
  | [d1, d2] => { results := [.lit (.bool true)], args := [d1, d2] }
  | _ => none }
def fnExactChangeChanceRow : OpenClaim := { program := "ytbkjijbmjacjnab", sum := "2a036cdb327f7e623bbb71cd073bbc1808117e8b97a77982fd4cea5a4cc03338", func := "loop.example/countedchances/laws.FnExactChangeChance", spec := "fnExactChangeChance", apart := false }
def FnExactChangeChanceSaid : Prop := fnExactChangeChanceRow.holds Try.pinned (OpenSpec.ofChange fnExactChangeChanceSpec)

/-- ITS FALSE NEIGHBOUR: 'it returns false'. Refute it at one input. -/
def fnExactChangeChanceWrong : ChangeSpec := { name := "fnExactChangeChance", fn := fun _ => fun
  | [d1, d2] => { results := [.lit (.bool false)], args := [d1, d2] }
  | _ => none }
def FnExactChangeChanceWrongFalsely : Prop := fnExactChangeChanceRow.holds Try.pinned (OpenSpec.ofChange fnExactChangeChanceWrong)

/- THE SECOND FORM. 'bulk': how many values and letters a reading holds, each counted each time it is reached (what is shared counts as often as it is met; a slice's spare places count too). A statement '..UptoSaid' is the law's where the arguments, and the package variables that the reading takes, are together of bulk at most 1048576: NARROWER than '..Said'. Prove '..Said' where nothing that the law and all that it calls make is longer than what came in: it says more and counts as full. Else prove '..UptoSaid'. A law counts once. -/
mutual
def uptoBulk {H : Type} : DataW H → Nat
  | .lit (.string bytes) => bytes.length + 1
  | .lit _ => 1
  | .nil => 1
  | .ptr d => uptoBulk d + 1
  | .slice elems spare => uptoBulkAll elems + uptoBulkAll spare + 1
  | .agg parts => uptoBulkAll parts + 1
  | .iface _ d => uptoBulk d + 1
  | .map entries => uptoBulkEntries entries + 1
  | .held _ => 1
def uptoBulkAll {H : Type} : List (DataW H) → Nat
  | [] => 0
  | d :: r => uptoBulk d + uptoBulkAll r
def uptoBulkEntries {H : Type} : List (Lit × DataW H) → Nat
  | [] => 0
  | x :: r => uptoBulkEntry x + uptoBulkEntries r
def uptoBulkEntry {H : Type} : Lit × DataW H → Nat
  | (.string bytes, d) => bytes.length + uptoBulk d + 1
  | (_, d) => uptoBulk d + 1
 end
def uptoSmall : (H : Type) → List (DataW H) → Bool := fun _ ds => decide (uptoBulkAll ds ≤ 1048576)
def OpenSpec.upto (s : _root_.Go.ChangeSpec) : _root_.Go.OpenSpec := { _root_.Go.OpenSpec.ofChange s with cond := some uptoSmall }

/-- 'laws.FnExactFourWays', WHERE WHAT IT READS IS OF BULK AT MOST 1048576: true; the input reads as it did. -/
def fnExactFourWaysUptoRow : OpenClaim := { program := "ytbkjijbmjacjnab", sum := "2a036cdb327f7e623bbb71cd073bbc1808117e8b97a77982fd4cea5a4cc03338", func := "loop.example/countedchances/laws.FnExactFourWays", spec := "fnExactFourWays", apart := false, narrowed := true }
def FnExactFourWaysUptoSaid : Prop := fnExactFourWaysUptoRow.holds Try.pinned (OpenSpec.upto fnExactFourWaysSpec)

/-- 'laws.FnExactFoursLike', WHERE WHAT IT READS IS OF BULK AT MOST 1048576: true; the input reads as it did. -/
def fnExactFoursLikeUptoRow : OpenClaim := { program := "ytbkjijbmjacjnab", sum := "2a036cdb327f7e623bbb71cd073bbc1808117e8b97a77982fd4cea5a4cc03338", func := "loop.example/countedchances/laws.FnExactFoursLike", spec := "fnExactFoursLike", apart := false, narrowed := true }
def FnExactFoursLikeUptoSaid : Prop := fnExactFoursLikeUptoRow.holds Try.pinned (OpenSpec.upto fnExactFoursLikeSpec)

/-- 'laws.FnExactFourChance', WHERE WHAT IT READS IS OF BULK AT MOST 1048576: true; the input reads as it did. -/
def fnExactFourChanceUptoRow : OpenClaim := { program := "ytbkjijbmjacjnab", sum := "2a036cdb327f7e623bbb71cd073bbc1808117e8b97a77982fd4cea5a4cc03338", func := "loop.example/countedchances/laws.FnExactFourChance", spec := "fnExactFourChance", unfollowed := true, recurses := true, apart := false, narrowed := true }
def FnExactFourChanceUptoSaid : Prop := fnExactFourChanceUptoRow.holds Try.pinned (OpenSpec.upto fnExactFourChanceSpec)

/-- 'laws.FnExactFourBoth', WHERE WHAT IT READS IS OF BULK AT MOST 1048576: true; the input reads as it did. -/
def fnExactFourBothUptoRow : OpenClaim := { program := "ytbkjijbmjacjnab", sum := "2a036cdb327f7e623bbb71cd073bbc1808117e8b97a77982fd4cea5a4cc03338", func := "loop.example/countedchances/laws.FnExactFourBoth", spec := "fnExactFourBoth", unfollowed := true, recurses := true, apart := false, narrowed := true }
def FnExactFourBothUptoSaid : Prop := fnExactFourBothUptoRow.holds Try.pinned (OpenSpec.upto fnExactFourBothSpec)

/-- 'laws.FnExactTablesWith', WHERE WHAT IT READS IS OF BULK AT MOST 1048576: true; the input reads as it did. -/
def fnExactTablesWithUptoRow : OpenClaim := { program := "ytbkjijbmjacjnab", sum := "2a036cdb327f7e623bbb71cd073bbc1808117e8b97a77982fd4cea5a4cc03338", func := "loop.example/countedchances/laws.FnExactTablesWith", spec := "fnExactTablesWith", recurses := true, apart := false, narrowed := true }
def FnExactTablesWithUptoSaid : Prop := fnExactTablesWithUptoRow.holds Try.pinned (OpenSpec.upto fnExactTablesWithSpec)

/-- 'laws.FnExactChangeChance', WHERE WHAT IT READS IS OF BULK AT MOST 1048576: true; the input reads as it did. -/
def fnExactChangeChanceUptoRow : OpenClaim := { program := "ytbkjijbmjacjnab", sum := "2a036cdb327f7e623bbb71cd073bbc1808117e8b97a77982fd4cea5a4cc03338", func := "loop.example/countedchances/laws.FnExactChangeChance", spec := "fnExactChangeChance", apart := false, narrowed := true }
def FnExactChangeChanceUptoSaid : Prop := fnExactChangeChanceUptoRow.holds Try.pinned (OpenSpec.upto fnExactChangeChanceSpec)

end Rows
end Go.Proofs.Ytbkjijbmjacjnab
