/-
  No cell of these rows narrows 'for every input' (looked for: loops, veiled, ifaces, maps, wideKeys, modest, calm, conditions, laid).
  DERIVED. THE GIVEN ROWS OF THIS SEAT. 4 by the template 'for every input the law returns true; each argument reads behind the call as it read before'; 0 by the template 'total and deterministic' (their statements: YticlhfckeoealaaTotals.lean).
  GIVEN WITH THE SEED: the statements are not yours to turn. If you find one false, say at which input.
  Laid BY PROGRAM, IN A SANDBOX (cutbox-rows.mjs): the forced cells as the released guide's own fill.sh prints them over the translation 35baf6e185e798b7… (all of the seat's roots in one cut). By AI agents, Wed Nov 11 2026. No macro, syntax, notation, axiom, sorry.
-/
import Derived.Test.YticlhfckeoealaaChecked
import GoSem.Claim
import GoSem.ClaimJoined
import GoSem.ClaimMapViews
import Derived.JoinedTies
import Derived.KernelRfl
namespace Go.Proofs.Yticlhfckeoealaa
/- THE CELL 'sum', in the pinned program and in every row, IS THE sha256 OF THE DUMP (.gsa) THAT YticlhfckeoealaaProg.lean LOADS. Nothing in Lean hashes anything: it is a label: what it is worth is what the hold of that sum in a sandbox is worth. -/
noncomputable def Try.pinned : Pinned := { name := "yticlhfckeoealaa", sum := "35baf6e185e798b7c79daf40a45466edb363a47b5599d1df38e5cc70e7f3cc0d", checked := Try.checked }
namespace Rows
def none {H : Type} : Left H := { results := [], args := [] }

/-- 'laws.FnSplitChance': WHATEVER THE INPUT: true; the input reads as it did. -/
def fnSplitChanceSpec : ChangeSpec := { name := "fnSplitChance", fn := fun _ => fun
  | [d] => { results := [.lit (.bool true)], args := [d] }
  | _ => none }
def fnSplitChanceRow : OpenClaim := { program := "yticlhfckeoealaa", sum := "35baf6e185e798b7c79daf40a45466edb363a47b5599d1df38e5cc70e7f3cc0d", func := "loop.example/countedchances/laws.FnSplitChance", spec := "fnSplitChance", unfollowed := true, recurses := true, apart := false }
def FnSplitChanceSaid : Prop := fnSplitChanceRow.holds Try.pinned (OpenSpec.ofChange fnSplitChanceSpec)

/-- ITS FALSE NEIGHBOUR: 'it returns false'. Refute it at one input. -/
def fnSplitChanceWrong : ChangeSpec := { name := "fnSplitChance", fn := fun _ => fun
  | [d] => { results := [.lit (.bool false)], args := [d] }
  | _ => none }
def FnSplitChanceWrongFalsely : Prop := fnSplitChanceRow.holds Try.pinned (OpenSpec.ofChange fnSplitChanceWrong)

/-- 'laws.FnTablesWith': WHATEVER THE INPUT: true; the input reads as it did. -/
def fnTablesWithSpec : ChangeSpec := { name := "fnTablesWith", fn := fun _ => fun
  | [d] => { results := [.lit (.bool true)], args := [d] }
  | _ => none }
def fnTablesWithRow : OpenClaim := { program := "yticlhfckeoealaa", sum := "35baf6e185e798b7c79daf40a45466edb363a47b5599d1df38e5cc70e7f3cc0d", func := "loop.example/countedchances/laws.FnTablesWith", spec := "fnTablesWith", recurses := true, apart := false }
def FnTablesWithSaid : Prop := fnTablesWithRow.holds Try.pinned (OpenSpec.ofChange fnTablesWithSpec)

/-- ITS FALSE NEIGHBOUR: 'it returns false'. Refute it at one input. -/
def fnTablesWithWrong : ChangeSpec := { name := "fnTablesWith", fn := fun _ => fun
  | [d] => { results := [.lit (.bool false)], args := [d] }
  | _ => none }
def FnTablesWithWrongFalsely : Prop := fnTablesWithRow.holds Try.pinned (OpenSpec.ofChange fnTablesWithWrong)

/-- 'laws.FnExactSplitChance': WHATEVER THE INPUT: true; the input reads as it did. -/
def fnExactSplitChanceSpec : ChangeSpec := { name := "fnExactSplitChance", fn := fun _ => fun
  | [d1, d2] => { results := [.lit (.bool true)], args := [d1, d2] }
  | _ => none }
def fnExactSplitChanceRow : OpenClaim := { program := "yticlhfckeoealaa", sum := "35baf6e185e798b7c79daf40a45466edb363a47b5599d1df38e5cc70e7f3cc0d", func := "loop.example/countedchances/laws.FnExactSplitChance", spec := "fnExactSplitChance", unfollowed := true, recurses := true, apart := false }
def FnExactSplitChanceSaid : Prop := fnExactSplitChanceRow.holds Try.pinned (OpenSpec.ofChange fnExactSplitChanceSpec)

/-- ITS FALSE NEIGHBOUR: 'it returns false'. Refute it at one input. -/
def fnExactSplitChanceWrong : ChangeSpec := { name := "fnExactSplitChance", fn := fun _ => fun
  | [d1, d2] => { results := [.lit (.bool false)], args := [d1, d2] }
  | _ => none }
def FnExactSplitChanceWrongFalsely : Prop := fnExactSplitChanceRow.holds Try.pinned (OpenSpec.ofChange fnExactSplitChanceWrong)

/-- 'laws.FnExactTablesWith': WHATEVER THE INPUT: true; the input reads as it did. -/
def fnExactTablesWithSpec : ChangeSpec := { name := "fnExactTablesWith", fn := fun _ => fun
  | [d1, d2] => { results := [.lit (.bool true)], args := [d1, d2] }
  | _ => none }
def fnExactTablesWithRow : OpenClaim := { program := "yticlhfckeoealaa", sum := "35baf6e185e798b7c79daf40a45466edb363a47b5599d1df38e5cc70e7f3cc0d", func := "loop.example/countedchances/laws.FnExactTablesWith", spec := "fnExactTablesWith", recurses := true, apart := false }
def FnExactTablesWithSaid : Prop := fnExactTablesWithRow.holds Try.pinned (OpenSpec.ofChange fnExactTablesWithSpec)

/-- ITS FALSE NEIGHBOUR: 'it returns false'. Refute it at one input. -/
def fnExactTablesWithWrong : ChangeSpec := { name := "fnExactTablesWith", fn := fun _ => fun
  | [d1, d2] => { results := [.lit (.bool false)], args := [d1, d2] }
  | _ => none }
def FnExactTablesWithWrongFalsely : Prop := fnExactTablesWithRow.holds Try.pinned (OpenSpec.ofChange fnExactTablesWithWrong)

/- THE SECOND FORM. 'bulk': how many values and letters a reading holds, each counted each time it is reached (what is shared counts as often as it is met; a slice's spare places count too). A statement '..UptoSaid' is the law's where the arguments, and the package variables that the reading takes, are together of bulk at most 1048576: NARROWER than '..Said'. Prove '..Said' where nothing that the law and all that it calls make is longer than what came in: it says more and counts as full. Else prove '..UptoSaid'. A law counts once. -/
mutual
def uptoBulk {H : Type} : DataW H → Nat
  | .lit (.string bytes) => bytes.length + 1
  | .lit _ => 1
  | .nil => 1
  | .ptr d => uptoBulk d + 1
  | .slice elems spare => uptoBulkAll elems + uptoBulkAll spare + 1
  | .agg parts => uptoBulkAll parts + 1
  | .iface _ d => uptoBulk d + 1
  | .map entries => uptoBulkEntries entries + 1
  | .held _ => 1
def uptoBulkAll {H : Type} : List (DataW H) → Nat
  | [] => 0
  | d :: r => uptoBulk d + uptoBulkAll r
def uptoBulkEntries {H : Type} : List (Lit × DataW H) → Nat
  | [] => 0
  | x :: r => uptoBulkEntry x + uptoBulkEntries r
def uptoBulkEntry {H : Type} : Lit × DataW H → Nat
  | (.string bytes, d) => bytes.length + uptoBulk d + 1
  | (_, d) => uptoBulk d + 1
 end
def uptoSmall : (H : Type) → List (DataW H) → Bool := fun _ ds => decide (uptoBulkAll ds ≤ 1048576)
def OpenSpec.upto (s : _root_.Go.ChangeSpec) : _root_.Go.OpenSpec := { _root_.Go.OpenSpec.ofChange s with cond := some uptoSmall }

/-- 'laws.FnSplitChance', WHERE WHAT IT READS IS OF BULK AT MOST 1048576: true; the input reads as it did. -/
def fnSplitChanceUptoRow : OpenClaim := { program := "yticlhfckeoealaa", sum := "35baf6e185e798b7c79daf40a45466edb363a47b5599d1df38e5cc70e7f3cc0d", func := "loop.example/countedchances/laws.FnSplitChance", spec := "fnSplitChance", unfollowed := true, recurses := true, apart := false, narrowed := true }
def FnSplitChanceUptoSaid : Prop := fnSplitChanceUptoRow.holds Try.pinned (OpenSpec.upto fnSplitChanceSpec)

/-- 'laws.FnTablesWith', WHERE WHAT IT READS IS OF BULK AT MOST 1048576: true; the input reads as it did. -/
def fnTablesWithUptoRow : OpenClaim := { program := "yticlhfckeoealaa", sum := "35baf6e185e798b7c79daf40a45466edb363a47b5599d1df38e5cc70e7f3cc0d", func := "loop.example/countedchances/laws.FnTablesWith", spec := "fnTablesWith", recurses := true, apart := false, narrowed := true }
def FnTablesWithUptoSaid : Prop := fnTablesWithUptoRow.holds Try.pinned (OpenSpec.upto fnTablesWithSpec)

/-- 'laws.FnExactSplitChance', WHERE WHAT IT READS IS OF BULK AT MOST 1048576: true; the input reads as it did. -/
def fnExactSplitChanceUptoRow : OpenClaim := { program := "yticlhfckeoealaa", sum := "35baf6e185e798b7c79daf40a45466edb363a47b5599d1df38e5cc70e7f3cc0d", func := "loop.example/countedchances/laws.FnExactSplitChance", spec := "fnExactSplitChance", unfollowed := true, recurses := true, apart := false, narrowed := true }
def FnExactSplitChanceUptoSaid : Prop := fnExactSplitChanceUptoRow.holds Try.pinned (OpenSpec.upto fnExactSplitChanceSpec)

/-- 'laws.FnExactTablesWith', WHERE WHAT IT READS IS OF BULK AT MOST 1048576: true; the input reads as it did. -/
def fnExactTablesWithUptoRow : OpenClaim := { program := "yticlhfckeoealaa", sum := "35baf6e185e798b7c79daf40a45466edb363a47b5599d1df38e5cc70e7f3cc0d", func := "loop.example/countedchances/laws.FnExactTablesWith", spec := "fnExactTablesWith", recurses := true, apart := false, narrowed := true }
def FnExactTablesWithUptoSaid : Prop := fnExactTablesWithUptoRow.holds Try.pinned (OpenSpec.upto fnExactTablesWithSpec)

end Rows
end Go.Proofs.Yticlhfckeoealaa
