/-
  No cell of these rows narrows 'for every input' (looked for: loops, veiled, ifaces, maps, wideKeys, modest, calm, conditions, laid).
  DERIVED. THE GIVEN ROWS OF THIS SEAT. 2 by the template 'for every input the law returns true; each argument reads behind the call as it read before'; 0 by the template 'total and deterministic' (their statements: YtpibmmkghedmaacTotals.lean).
  GIVEN WITH THE SEED: the statements are not yours to turn. If you find one false, say at which input.
  Laid BY PROGRAM, IN A SANDBOX (cutbox-rows.mjs): the forced cells as the released guide's own fill.sh prints them over the translation d9234a65be586cb1… (all of the seat's roots in one cut). By AI agents, Wed Nov 11 2026. No macro, syntax, notation, axiom, sorry.
-/
import Derived.Test.YtpibmmkghedmaacChecked
import GoSem.Claim
import GoSem.ClaimJoined
import GoSem.ClaimMapViews
import Derived.JoinedTies
import Derived.KernelRfl
namespace Go.Proofs.Ytpibmmkghedmaac
/- THE CELL 'sum', in the pinned program and in every row, IS THE sha256 OF THE DUMP (.gsa) THAT YtpibmmkghedmaacProg.lean LOADS. Nothing in Lean hashes anything: it is a label: what it is worth is what the hold of that sum in a sandbox is worth. -/
noncomputable def Try.pinned : Pinned := { name := "ytpibmmkghedmaac", sum := "d9234a65be586cb126ca92efb740ac01b3f07ab34127d96f06e1b0313e94b617", checked := Try.checked }
namespace Rows
def none {H : Type} : Left H := { results := [], args := [] }

/-- 'laws.FnPathsWithin': WHATEVER THE INPUT: true; the input reads as it did. -/
def fnPathsWithinSpec : ChangeSpec := { name := "fnPathsWithin", fn := fun _ => fun
  | [d] => { results := [.lit (.bool true)], args := [d] }
  | _ => none }
def fnPathsWithinRow : OpenClaim := { program := "ytpibmmkghedmaac", sum := "d9234a65be586cb126ca92efb740ac01b3f07ab34127d96f06e1b0313e94b617", func := "loop.example/countedchances/laws.FnPathsWithin", spec := "fnPathsWithin", recurses := true, apart := false }
def FnPathsWithinSaid : Prop := fnPathsWithinRow.holds Try.pinned (OpenSpec.ofChange fnPathsWithinSpec)

/-- ITS FALSE NEIGHBOUR: 'it returns false'. Refute it at one input. -/
def fnPathsWithinWrong : ChangeSpec := { name := "fnPathsWithin", fn := fun _ => fun
  | [d] => { results := [.lit (.bool false)], args := [d] }
  | _ => none }
def FnPathsWithinWrongFalsely : Prop := fnPathsWithinRow.holds Try.pinned (OpenSpec.ofChange fnPathsWithinWrong)

/-- 'laws.FnExactPathsWithin': WHATEVER THE INPUT: true; the input reads as it did. -/
def fnExactPathsWithinSpec : ChangeSpec := { name := "fnExactPathsWithin", fn := fun _ => fun
  | [d1, d2, d3] => { results := [.lit (.bool true)], args := [d1, d2, d3] }
  | _ => none }
def fnExactPathsWithinRow : OpenClaim := { program := "ytpibmmkghedmaac", sum := "d9234a65be586cb126ca92efb740ac01b3f07ab34127d96f06e1b0313e94b617", func := "loop.example/countedchances/laws.FnExactPathsWithin", spec := "fnExactPathsWithin", recurses := true, apart := false }
def FnExactPathsWithinSaid : Prop := fnExactPathsWithinRow.holds Try.pinned (OpenSpec.ofChange fnExactPathsWithinSpec)

/-- ITS FALSE NEIGHBOUR: 'it returns false'. Refute it at one input. -/
def fnExactPathsWithinWrong : ChangeSpec := { name := "fnExactPathsWithin", fn := fun _ => fun
  | [d1, d2, d3] => { results := [.lit (.bool false)], args := [d1, d2, d3] }
  | _ => none }
def FnExactPathsWithinWrongFalsely : Prop := fnExactPathsWithinRow.holds Try.pinned (OpenSpec.ofChange fnExactPathsWithinWrong)

/- THE SECOND FORM. 'bulk': how many values and letters a reading holds, each counted each time it is reached (what is shared counts as often as it is met; a slice's spare places count too). A statement '..UptoSaid' is the law's where the arguments, and the package variables that the reading takes, are together of bulk at most 1048576: NARROWER than '..Said'. Prove '..Said' where nothing that the law and all that it calls make is longer than what came in: it says more and counts as full. Else prove '..UptoSaid'. A law counts once. -/
mutual
def uptoBulk {H : Type} : DataW H → Nat
  | .lit (.string bytes) => bytes.length + 1
  | .lit _ => 1
  | .nil => 1
  | .ptr d => uptoBulk d + 1
  | .slice elems spare => uptoBulkAll elems + uptoBulkAll spare + 1
  | .agg parts => uptoBulkAll parts + 1
  | .iface _ d => uptoBulk d + 1
  | .map entries => uptoBulkEntries entries + 1
  | .held _ => 1
def uptoBulkAll {H : Type} : List (DataW H) → Nat
  | [] => 0
  | d :: r => uptoBulk d + uptoBulkAll r
def uptoBulkEntries {H : Type} : List (Lit × DataW H) → Nat
  | [] => 0
  | x :: r => uptoBulkEntry x + uptoBulkEntries r
def uptoBulkEntry {H : Type} : Lit × DataW H → Nat
  | (.string bytes, d) => bytes.length + uptoBulk d + 1
  | (_, d) => uptoBulk d + 1
 end
def uptoSmall : (H : Type) → List (DataW H) → Bool := fun _ ds => decide (uptoBulkAll ds ≤ 1048576)
def OpenSpec.upto (s : _root_.Go.ChangeSpec) : _root_.Go.OpenSpec := { _root_.Go.OpenSpec.ofChange s with cond := some uptoSmall }

/-- 'laws.FnPathsWithin', WHERE WHAT IT READS IS OF BULK AT MOST 1048576: true; the input reads as it did. -/
def fnPathsWithinUptoRow : OpenClaim := { program := "ytpibmmkghedmaac", sum := "d9234a65be586cb126ca92efb740ac01b3f07ab34127d96f06e1b0313e94b617", func := "loop.example/countedchances/laws.FnPathsWithin", spec := "fnPathsWithin", recurses := true, apart := false, narrowed := true }
def FnPathsWithinUptoSaid : Prop := fnPathsWithinUptoRow.holds Try.pinned (OpenSpec.upto fnPathsWithinSpec)

/-- 'laws.FnExactPathsWithin', WHERE WHAT IT READS IS OF BULK AT MOST 1048576: true; the input reads as it did. -/
def fnExactPathsWithinUptoRow : OpenClaim := { program := "ytpibmmkghedmaac", sum := "d9234a65be586cb126ca92efb740ac01b3f07ab34127d96f06e1b0313e94b617", func := "loop.example/countedchances/laws.FnExactPathsWithin", spec := "fnExactPathsWithin", recurses := true, apart := false, narrowed := true }
def FnExactPathsWithinUptoSaid : Prop := fnExactPathsWithinUptoRow.holds Try.pinned (OpenSpec.upto fnExactPathsWithinSpec)

end Rows
end Go.Proofs.Ytpibmmkghedmaac
