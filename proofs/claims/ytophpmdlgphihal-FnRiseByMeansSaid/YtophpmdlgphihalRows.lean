/-
  No cell of these rows narrows 'for every input' (looked for: loops, veiled, ifaces, maps, wideKeys, modest, calm, conditions, laid).
  DERIVED. THE GIVEN ROWS OF THIS SEAT. 2 by the template 'for every input the law returns true; each argument reads behind the call as it read before'; 0 by the template 'total and deterministic' (their statements: YtophpmdlgphihalTotals.lean).
  GIVEN WITH THE SEED: the statements are not yours to turn. If you find one false, say at which input.
  Laid BY PROGRAM, IN A SANDBOX (cutbox-rows.mjs): the forced cells as the released guide's own fill.sh prints them over the translation c39e0140b29b7c95… (all of the seat's roots in one cut). By AI agents, Wed Nov 11 2026. No macro, syntax, notation, axiom, sorry.
-/
import Derived.Test.YtophpmdlgphihalChecked
import GoSem.Claim
import GoSem.ClaimJoined
import GoSem.ClaimMapViews
import Derived.JoinedTies
import Derived.KernelRfl
namespace Go.Proofs.Ytophpmdlgphihal
/- THE CELL 'sum', in the pinned program and in every row, IS THE sha256 OF THE DUMP (.gsa) THAT YtophpmdlgphihalProg.lean LOADS. Nothing in Lean hashes anything: it is a label: what it is worth is what the hold of that sum in a sandbox is worth. -/
noncomputable def Try.pinned : Pinned := { name := "ytophpmdlgphihal", sum := "c39e0140b29b7c95d0ef4f8a60b8e66c7a85017d130f7e620412b1cc1c75f342", checked := Try.checked }
namespace Rows
def none {H : Type} : Left H := { results := [], args := [] }

/-- 'laws.FnExactRiseByMeans': WHATEVER THE INPUT: true; the input reads as it did. -/
def fnExactRiseByMeansSpec : ChangeSpec := { name := "fnExactRiseByMeans", fn := fun _ => fun
  | [d1, d2] => { results := [.lit (.bool true)], args := [d1, d2] }
  | _ => none }
def fnExactRiseByMeansRow : OpenClaim := { program := "ytophpmdlgphihal", sum := "c39e0140b29b7c95d0ef4f8a60b8e66c7a85017d130f7e620412b1cc1c75f342", func := "loop.example/countedchances/laws.FnExactRiseByMeans", spec := "fnExactRiseByMeans", unfollowed := true, recurses := true, apart := false }
def FnExactRiseByMeansSaid : Prop := fnExactRiseByMeansRow.holds Try.pinned (OpenSpec.ofChange fnExactRiseByMeansSpec)

/-- ITS FALSE NEIGHBOUR: 'it returns false'. Refute it at one input. -/
def fnExactRiseByMeansWrong : ChangeSpec := { name := "fnExactRiseByMeans", fn := fun _ => fun
  | [d1, d2] => { results := [.lit (.bool false)], args := [d1, d2] }
  | _ => none }
def FnExactRiseByMeansWrongFalsely : Prop := fnExactRiseByMeansRow.holds Try.pinned (OpenSpec.ofChange fnExactRiseByMeansWrong)

/-- 'laws.FnRiseByMeans': WHATEVER THE INPUT: true; the input reads as it did. -/
def fnRiseByMeansSpec : ChangeSpec := { name := "fnRiseByMeans", fn := fun _ => fun
  | [d] => { results := [.lit (.bool true)], args := [d] }
  | _ => none }
def fnRiseByMeansRow : OpenClaim := { program := "ytophpmdlgphihal", sum := "c39e0140b29b7c95d0ef4f8a60b8e66c7a85017d130f7e620412b1cc1c75f342", func := "loop.example/countedchances/laws.FnRiseByMeans", spec := "fnRiseByMeans", unfollowed := true, recurses := true, apart := false }
def FnRiseByMeansSaid : Prop := fnRiseByMeansRow.holds Try.pinned (OpenSpec.ofChange fnRiseByMeansSpec)

/-- ITS FALSE NEIGHBOUR: 'it returns false'. Refute it at one input. -/
def fnRiseByMeansWrong : ChangeSpec := { name := "fnRiseByMeans", fn := fun _ => fun
  | [d] => { results := [.lit (.bool false)], args := [d] }
  | _ => none }
def FnRiseByMeansWrongFalsely : Prop := fnRiseByMeansRow.holds Try.pinned (OpenSpec.ofChange fnRiseByMeansWrong)

/- THE SECOND FORM. 'bulk': how many values and letters a reading holds, each counted each time it is reached (what is shared counts as often as it is met; a slice's spare places count too). A statement '..UptoSaid' is the law's where the arguments, and the package variables that the reading takes, are together of bulk at most 1048576: NARROWER than '..Said'. Prove '..Said' where nothing that the law and all that it calls make is longer than what came in: it says more and counts as full. Else prove '..UptoSaid'. A law counts once. -/
mutual
def uptoBulk {H : Type} : DataW H → Nat
  | .lit (.string bytes) => bytes.length + 1
  | .lit _ => 1
  | .nil => 1
  | .ptr d => uptoBulk d + 1
  | .slice elems spare => uptoBulkAll elems + uptoBulkAll spare + 1
  | .agg parts => uptoBulkAll parts + 1
  | .iface _ d => uptoBulk d + 1
  | .map entries => uptoBulkEntries entries + 1
  | .held _ => 1
def uptoBulkAll {H : Type} : List (DataW H) → Nat
  | [] => 0
  | d :: r => uptoBulk d + uptoBulkAll r
def uptoBulkEntries {H : Type} : List (Lit × DataW H) → Nat
  | [] => 0
  | x :: r => uptoBulkEntry x + uptoBulkEntries r
def uptoBulkEntry {H : Type} : Lit × DataW H → Nat
  | (.string bytes, d) => bytes.length + uptoBulk d + 1
  | (_, d) => uptoBulk d + 1
 end
def uptoSmall : (H : Type) → List (DataW H) → Bool := fun _ ds => decide (uptoBulkAll ds ≤ 1048576)
def OpenSpec.upto (s : _root_.Go.ChangeSpec) : _root_.Go.OpenSpec := { _root_.Go.OpenSpec.ofChange s with cond := some uptoSmall }

/-- 'laws.FnExactRiseByMeans', WHERE WHAT IT READS IS OF BULK AT MOST 1048576: true; the input reads as it did. -/
def fnExactRiseByMeansUptoRow : OpenClaim := { program := "ytophpmdlgphihal", sum := "c39e0140b29b7c95d0ef4f8a60b8e66c7a85017d130f7e620412b1cc1c75f342", func := "loop.example/countedchances/laws.FnExactRiseByMeans", spec := "fnExactRiseByMeans", unfollowed := true, recurses := true, apart := false, narrowed := true }
def FnExactRiseByMeansUptoSaid : Prop := fnExactRiseByMeansUptoRow.holds Try.pinned (OpenSpec.upto fnExactRiseByMeansSpec)

/-- 'laws.FnRiseByMeans', WHERE WHAT IT READS IS OF BULK AT MOST 1048576: true; the input reads as it did. -/
def fnRiseByMeansUptoRow : OpenClaim := { program := "ytophpmdlgphihal", sum := "c39e0140b29b7c95d0ef4f8a60b8e66c7a85017d130f7e620412b1cc1c75f342", func := "loop.example/countedchances/laws.FnRiseByMeans", spec := "fnRiseByMeans", unfollowed := true, recurses := true, apart := false, narrowed := true }
def FnRiseByMeansUptoSaid : Prop := fnRiseByMeansUptoRow.holds Try.pinned (OpenSpec.upto fnRiseByMeansSpec)

end Rows
end Go.Proofs.Ytophpmdlgphihal
