/-
  No cell of these rows narrows 'for every input' (looked for: loops, veiled, ifaces, maps, wideKeys, modest, calm, conditions, laid).
  DERIVED. THE GIVEN ROWS OF THIS SEAT. 2 by the template 'for every input the law returns true; each argument reads behind the call as it read before'; 0 by the template 'total and deterministic' (their statements: YtophpmdlgphihahTotals.lean).
  GIVEN WITH THE SEED: the statements are not yours to turn. If you find one false, say at which input.
  Laid BY PROGRAM, IN A SANDBOX (cutbox-rows.mjs): the forced cells as the released guide's own fill.sh prints them over the translation 9f2fe747266d93cb… (all of the seat's roots in one cut). By AI agents, Wed Nov 11 2026. No macro, syntax, notation, axiom, sorry.
-/
import Derived.Test.YtophpmdlgphihahChecked
import GoSem.Claim
import GoSem.ClaimJoined
import GoSem.ClaimMapViews
import Derived.JoinedTies
import Derived.KernelRfl
namespace Go.Proofs.Ytophpmdlgphihah
/- THE CELL 'sum', in the pinned program and in every row, IS THE sha256 OF THE DUMP (.gsa) THAT YtophpmdlgphihahProg.lean LOADS. Nothing in Lean hashes anything: it is a label: what it is worth is what the hold of that sum in a sandbox is worth. -/
noncomputable def Try.pinned : Pinned := { name := "ytophpmdlgphihah", sum := "9f2fe747266d93cb4fac28cedf3869864ab197e51babceb7a5f1812999371d7a", checked := Try.checked }
namespace Rows
def none {H : Type} : Left H := { results := [], args := [] }

/-- 'laws.FnExactMiddlePieces': WHATEVER THE INPUT: true; the input reads as it did. -/
def fnExactMiddlePiecesSpec : ChangeSpec := { name := "fnExactMiddlePieces", fn := fun _ => fun
  | [d1, d2] => { results := [.lit (.bool true)], args := [d1, d2] }
  | _ => none }
def fnExactMiddlePiecesRow : OpenClaim := { program := "ytophpmdlgphihah", sum := "9f2fe747266d93cb4fac28cedf3869864ab197e51babceb7a5f1812999371d7a", func := "loop.example/countedchances/laws.FnExactMiddlePieces", spec := "fnExactMiddlePieces", unfollowed := true, recurses := true, apart := false }
def FnExactMiddlePiecesSaid : Prop := fnExactMiddlePiecesRow.holds Try.pinned (OpenSpec.ofChange fnExactMiddlePiecesSpec)

/-- ITS FALSE NEIGHBOUR: 'it returns false'. Refute it at one input. -/
def fnExactMiddlePiecesWrong : ChangeSpec := { name := "fnExactMiddlePieces", fn := fun _ => fun
  | [d1, d2] => { results := [.lit (.bool false)], args := [d1, d2] }
  | _ => none }
def FnExactMiddlePiecesWrongFalsely : Prop := fnExactMiddlePiecesRow.holds Try.pinned (OpenSpec.ofChange fnExactMiddlePiecesWrong)

/-- 'laws.FnMiddlePieces': WHATEVER THE INPUT: true; the input reads as it did. -/
def fnMiddlePiecesSpec : ChangeSpec := { name := "fnMiddlePieces", fn := fun _ => fun
  | [d] => { results := [.lit (.bool true)], args := [d] }
  | _ => none }
def fnMiddlePiecesRow : OpenClaim := { program := "ytophpmdlgphihah", sum := "9f2fe747266d93cb4fac28cedf3869864ab197e51babceb7a5f1812999371d7a", func := "loop.example/countedchances/laws.FnMiddlePieces", spec := "fnMiddlePieces", unfollowed := true, recurses := true, apart := false }
def FnMiddlePiecesSaid : Prop := fnMiddlePiecesRow.holds Try.pinned (OpenSpec.ofChange fnMiddlePiecesSpec)

/-- ITS FALSE NEIGHBOUR: 'it returns false'. Refute it at one input. -/
def fnMiddlePiecesWrong : ChangeSpec := { name := "fnMiddlePieces", fn := fun _ => fun
  | [d] => { results := [.lit (.bool false)], args := [d] }
  | _ => none }
def FnMiddlePiecesWrongFalsely : Prop := fnMiddlePiecesRow.holds Try.pinned (OpenSpec.ofChange fnMiddlePiecesWrong)

/- THE SECOND FORM. 'bulk': how many values and letters a reading holds, each counted each time it is reached (what is shared counts as often as it is met; a slice's spare places count too). A statement '..UptoSaid' is the law's where the arguments, and the package variables that the reading takes, are together of bulk at most 1048576: NARROWER than '..Said'. Prove '..Said' where nothing that the law and all that it calls make is longer than what came in: it says more and counts as full. Else prove '..UptoSaid'. A law counts once. -/
mutual
def uptoBulk {H : Type} : DataW H → Nat
  | .lit (.string bytes) => bytes.length + 1
  | .lit _ => 1
  | .nil => 1
  | .ptr d => uptoBulk d + 1
  | .slice elems spare => uptoBulkAll elems + uptoBulkAll spare + 1
  | .agg parts => uptoBulkAll parts + 1
  | .iface _ d => uptoBulk d + 1
  | .map entries => uptoBulkEntries entries + 1
  | .held _ => 1
def uptoBulkAll {H : Type} : List (DataW H) → Nat
  | [] => 0
  | d :: r => uptoBulk d + uptoBulkAll r
def uptoBulkEntries {H : Type} : List (Lit × DataW H) → Nat
  | [] => 0
  | x :: r => uptoBulkEntry x + uptoBulkEntries r
def uptoBulkEntry {H : Type} : Lit × DataW H → Nat
  | (.string bytes, d) => bytes.length + uptoBulk d + 1
  | (_, d) => uptoBulk d + 1
 end
def uptoSmall : (H : Type) → List (DataW H) → Bool := fun _ ds => decide (uptoBulkAll ds ≤ 1048576)
def OpenSpec.upto (s : _root_.Go.ChangeSpec) : _root_.Go.OpenSpec := { _root_.Go.OpenSpec.ofChange s with cond := some uptoSmall }

/-- 'laws.FnExactMiddlePieces', WHERE WHAT IT READS IS OF BULK AT MOST 1048576: true; the input reads as it did. -/
def fnExactMiddlePiecesUptoRow : OpenClaim := { program := "ytophpmdlgphihah", sum := "9f2fe747266d93cb4fac28cedf3869864ab197e51babceb7a5f1812999371d7a", func := "loop.example/countedchances/laws.FnExactMiddlePieces", spec := "fnExactMiddlePieces", unfollowed := true, recurses := true, apart := false, narrowed := true }
def FnExactMiddlePiecesUptoSaid : Prop := fnExactMiddlePiecesUptoRow.holds Try.pinned (OpenSpec.upto fnExactMiddlePiecesSpec)

/-- 'laws.FnMiddlePieces', WHERE WHAT IT READS IS OF BULK AT MOST 1048576: true; the input reads as it did. -/
def fnMiddlePiecesUptoRow : OpenClaim := { program := "ytophpmdlgphihah", sum := "9f2fe747266d93cb4fac28cedf3869864ab197e51babceb7a5f1812999371d7a", func := "loop.example/countedchances/laws.FnMiddlePieces", spec := "fnMiddlePieces", unfollowed := true, recurses := true, apart := false, narrowed := true }
def FnMiddlePiecesUptoSaid : Prop := fnMiddlePiecesUptoRow.holds Try.pinned (OpenSpec.upto fnMiddlePiecesSpec)

end Rows
end Go.Proofs.Ytophpmdlgphihah
