/-
  No cell of these rows narrows 'for every input' (looked for: loops, veiled, ifaces, maps, wideKeys, modest, calm, conditions, laid).
  DERIVED. THE GIVEN ROWS OF THIS SEAT. 2 by the template 'for every input the law returns true; each argument reads behind the call as it read before'; 0 by the template 'total and deterministic' (their statements: YtophpmdlgphihapTotals.lean).
  GIVEN WITH THE SEED: the statements are not yours to turn. If you find one false, say at which input.
  Laid BY PROGRAM, IN A SANDBOX (cutbox-rows.mjs): the forced cells as the released guide's own fill.sh prints them over the translation 1cb3c0cf19471102… (all of the seat's roots in one cut). By AI agents, Wed Nov 11 2026. No macro, syntax, notation, axiom, sorry.
-/
import Derived.Test.YtophpmdlgphihapChecked
import GoSem.Claim
import GoSem.ClaimJoined
import GoSem.ClaimMapViews
import Derived.JoinedTies
import Derived.KernelRfl
namespace Go.Proofs.Ytophpmdlgphihap
/- THE CELL 'sum', in the pinned program and in every row, IS THE sha256 OF THE DUMP (.gsa) THAT YtophpmdlgphihapProg.lean LOADS. Nothing in Lean hashes anything: it is a label: what it is worth is what the hold of that sum in a sandbox is worth. -/
noncomputable def Try.pinned : Pinned := { name := "ytophpmdlgphihap", sum := "1cb3c0cf1947110217a248bee10a2f4ef417216ff0c7be0a4d9b0c0c9446ec2d", checked := Try.checked }
namespace Rows
def none {H : Type} : Left H := { results := [], args := [] }

/-- 'laws.FnExactRiseSum': WHATEVER THE INPUT: true; the input reads as it did. -/
def fnExactRiseSumSpec : ChangeSpec := { name := "fnExactRiseSum", fn := fun _ => fun
  | [d1, d2] => { results := [.lit (.bool true)], args := [d1, d2] }
  | _ => none }
def fnExactRiseSumRow : OpenClaim := { program := "ytophpmdlgphihap", sum := "1cb3c0cf1947110217a248bee10a2f4ef417216ff0c7be0a4d9b0c0c9446ec2d", func := "loop.example/countedchances/laws.FnExactRiseSum", spec := "fnExactRiseSum", apart := false }
def FnExactRiseSumSaid : Prop := fnExactRiseSumRow.holds Try.pinned (OpenSpec.ofChange fnExactRiseSumSpec)

/-- ITS FALSE NEIGHBOUR: 'it returns false'. Refute it at one input. -/
def fnExactRiseSumWrong : ChangeSpec := { name := "fnExactRiseSum", fn := fun _ => fun
  | [d1, d2] => { results := [.lit (.bool false)], args := [d1, d2] }
  | _ => none }
def FnExactRiseSumWrongFalsely : Prop := fnExactRiseSumRow.holds Try.pinned (OpenSpec.ofChange fnExactRiseSumWrong)

/-- 'laws.FnRiseSum': WHATEVER THE INPUT: true; the input reads as it did. -/
def fnRiseSumSpec : ChangeSpec := { name := "fnRiseSum", fn := fun _ => fun
  | [d] => { results := [.lit (.bool true)], args := [d] }
  | _ => none }
def fnRiseSumRow : OpenClaim := { program := "ytophpmdlgphihap", sum := "1cb3c0cf1947110217a248bee10a2f4ef417216ff0c7be0a4d9b0c0c9446ec2d", func := "loop.example/countedchances/laws.FnRiseSum", spec := "fnRiseSum", apart := false }
def FnRiseSumSaid : Prop := fnRiseSumRow.holds Try.pinned (OpenSpec.ofChange fnRiseSumSpec)

/-- ITS FALSE NEIGHBOUR: 'it returns false'. Refute it at one input. -/
def fnRiseSumWrong : ChangeSpec := { name := "fnRiseSum", fn := fun _ => fun
  | [d] => { results := [.lit (.bool false)], args := [d] }
  | _ => none }
def FnRiseSumWrongFalsely : Prop := fnRiseSumRow.holds Try.pinned (OpenSpec.ofChange fnRiseSumWrong)

/- THE SECOND FORM. 'bulk': how many values and letters a reading holds, each counted each time it is reached (what is shared counts as often as it is met; a slice's spare places count too). A statement '..UptoSaid' is the law's where the arguments, and the package variables that the reading takes, are together of bulk at most 1048576: NARROWER than '..Said'. Prove '..Said' where nothing that the law and all that it calls make is longer than what came in: it says more and counts as full. Else prove '..UptoSaid'. A law counts once. -/
mutual
def uptoBulk {H : Type} : DataW H → Nat
  | .lit (.string bytes) => bytes.length + 1
  | .lit _ => 1
  | .nil => 1
  | .ptr d => uptoBulk d + 1
  | .slice elems spare => uptoBulkAll elems + uptoBulkAll spare + 1
  | .agg parts => uptoBulkAll parts + 1
  | .iface _ d => uptoBulk d + 1
  | .map entries => uptoBulkEntries entries + 1
  | .held _ => 1
def uptoBulkAll {H : Type} : List (DataW H) → Nat
  | [] => 0
  | d :: r => uptoBulk d + uptoBulkAll r
def uptoBulkEntries {H : Type} : List (Lit × DataW H) → Nat
  | [] => 0
  | x :: r => uptoBulkEntry x + uptoBulkEntries r
def uptoBulkEntry {H : Type} : Lit × DataW H → Nat
  | (.string bytes, d) => bytes.length + uptoBulk d + 1
  | (_, d) => uptoBulk d + 1
 end
def uptoSmall : (H : Type) → List (DataW H) → Bool := fun _ ds => decide (uptoBulkAll ds ≤ 1048576)
def OpenSpec.upto (s : _root_.Go.ChangeSpec) : _root_.Go.OpenSpec := { _root_.Go.OpenSpec.ofChange s with cond := some uptoSmall }

/-- 'laws.FnExactRiseSum', WHERE WHAT IT READS IS OF BULK AT MOST 1048576: true; the input reads as it did. -/
def fnExactRiseSumUptoRow : OpenClaim := { program := "ytophpmdlgphihap", sum := "1cb3c0cf1947110217a248bee10a2f4ef417216ff0c7be0a4d9b0c0c9446ec2d", func := "loop.example/countedchances/laws.FnExactRiseSum", spec := "fnExactRiseSum", apart := false, narrowed := true }
def FnExactRiseSumUptoSaid : Prop := fnExactRiseSumUptoRow.holds Try.pinned (OpenSpec.upto fnExactRiseSumSpec)

/-- 'laws.FnRiseSum', WHERE WHAT IT READS IS OF BULK AT MOST 1048576: true; the input reads as it did. -/
def fnRiseSumUptoRow : OpenClaim := { program := "ytophpmdlgphihap", sum := "1cb3c0cf1947110217a248bee10a2f4ef417216ff0c7be0a4d9b0c0c9446ec2d", func := "loop.example/countedchances/laws.FnRiseSum", spec := "fnRiseSum", apart := false, narrowed := true }
def FnRiseSumUptoSaid : Prop := fnRiseSumUptoRow.holds Try.pinned (OpenSpec.upto fnRiseSumSpec)

end Rows
end Go.Proofs.Ytophpmdlgphihap
