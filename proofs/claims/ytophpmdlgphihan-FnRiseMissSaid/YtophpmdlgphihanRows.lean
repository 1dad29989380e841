/-
  No cell of these rows narrows 'for every input' (looked for: loops, veiled, ifaces, maps, wideKeys, modest, calm, conditions, laid).
  DERIVED. THE GIVEN ROWS OF THIS SEAT. 2 by the template 'for every input the law returns true; each argument reads behind the call as it read before'; 0 by the template 'total and deterministic' (their statements: YtophpmdlgphihanTotals.lean).
  GIVEN WITH THE SEED: the statements are not yours to turn. If you find one false, say at which input.
  Laid BY PROGRAM, IN A SANDBOX (cutbox-rows.mjs): the forced cells as the released guide's own fill.sh prints them over the translation a48d197bae770c27… (all of the seat's roots in one cut). By AI agents, Wed Nov 11 2026. No macro, syntax, notation, axiom, sorry.
-/
import Derived.Test.YtophpmdlgphihanChecked
import GoSem.Claim
import GoSem.ClaimJoined
import GoSem.ClaimMapViews
import Derived.JoinedTies
import Derived.KernelRfl
namespace Go.Proofs.Ytophpmdlgphihan
/- THE CELL 'sum', in the pinned program and in every row, IS THE sha256 OF THE DUMP (.gsa) THAT YtophpmdlgphihanProg.lean LOADS. Nothing in Lean hashes anything: it is a label: what it is worth is what the hold of that sum in a sandbox is worth. -/
noncomputable def Try.pinned : Pinned := { name := "ytophpmdlgphihan", sum := "a48d197bae770c27b6dfbc6370f10650362e38e09eba857971ce481f880e171c", checked := Try.checked }
namespace Rows
def none {H : Type} : Left H := { results := [], args := [] }

/-- 'laws.FnExactRiseMiss': WHATEVER THE INPUT: true; the input reads as it did. -/
def fnExactRiseMissSpec : ChangeSpec := { name := "fnExactRiseMiss", fn := fun _ => fun
  | [d1, d2] => { results := [.lit (.bool true)], args := [d1, d2] }
  | _ => none }
def fnExactRiseMissRow : OpenClaim := { program := "ytophpmdlgphihan", sum := "a48d197bae770c27b6dfbc6370f10650362e38e09eba857971ce481f880e171c", func := "loop.example/countedchances/laws.FnExactRiseMiss", spec := "fnExactRiseMiss", apart := false }
def FnExactRiseMissSaid : Prop := fnExactRiseMissRow.holds Try.pinned (OpenSpec.ofChange fnExactRiseMissSpec)

/-- ITS FALSE NEIGHBOUR: 'it returns false'. Refute it at one input. -/
def fnExactRiseMissWrong : ChangeSpec := { name := "fnExactRiseMiss", fn := fun _ => fun
  | [d1, d2] => { results := [.lit (.bool false)], args := [d1, d2] }
  | _ => none }
def FnExactRiseMissWrongFalsely : Prop := fnExactRiseMissRow.holds Try.pinned (OpenSpec.ofChange fnExactRiseMissWrong)

/-- 'laws.FnRiseMiss': WHATEVER THE INPUT: true; the input reads as it did. -/
def fnRiseMissSpec : ChangeSpec := { name := "fnRiseMiss", fn := fun _ => fun
  | [d] => { results := [.lit (.bool true)], args := [d] }
  | _ => none }
def fnRiseMissRow : OpenClaim := { program := "ytophpmdlgphihan", sum := "a48d197bae770c27b6dfbc6370f10650362e38e09eba857971ce481f880e171c", func := "loop.example/countedchances/laws.FnRiseMiss", spec := "fnRiseMiss", apart := false }
def FnRiseMissSaid : Prop := fnRiseMissRow.holds Try.pinned (OpenSpec.ofChange fnRiseMissSpec)

/-- ITS FALSE NEIGHBOUR: 'it returns false'. Refute it at one input. -/
def fnRiseMissWrong : ChangeSpec := { name := "fnRiseMiss", fn := fun _ => fun
  | [d] => { results := [.lit (.bool false)], args := [d] }
  | _ => none }
def FnRiseMissWrongFalsely : Prop := fnRiseMissRow.holds Try.pinned (OpenSpec.ofChange fnRiseMissWrong)

/- THE SECOND FORM. 'bulk': how many values and letters a reading holds, each counted each time it is reached (what is shared counts as often as it is met; a slice's spare places count too). A statement '..UptoSaid' is the law's where the arguments, and the package variables that the reading takes, are together of bulk at most 1048576: NARROWER than '..Said'. Prove '..Said' where nothing that the law and all that it calls make is longer than what came in: it says more and counts as full. Else prove '..UptoSaid'. A law counts once. -/
mutual
def uptoBulk {H : Type} : DataW H → Nat
  | .lit (.string bytes) => bytes.length + 1
  | .lit _ => 1
  | .nil => 1
  | .ptr d => uptoBulk d + 1
  | .slice elems spare => uptoBulkAll elems + uptoBulkAll spare + 1
  | .agg parts => uptoBulkAll parts + 1
  | .iface _ d => uptoBulk d + 1
  | .map entries => uptoBulkEntries entries + 1
  | .held _ => 1
def uptoBulkAll {H : Type} : List (DataW H) → Nat
  | [] => 0
  | d :: r => uptoBulk d + uptoBulkAll r
def uptoBulkEntries {H : Type} : List (Lit × DataW H) → Nat
  | [] => 0
  | x :: r => uptoBulkEntry x + uptoBulkEntries r
def uptoBulkEntry {H : Type} : Lit × DataW H → Nat
  | (.string bytes, d) => bytes.length + uptoBulk d + 1
  | (_, d) => uptoBulk d + 1
 end
def uptoSmall : (H : Type) → List (DataW H) → Bool := fun _ ds => decide (uptoBulkAll ds ≤ 1048576)
def OpenSpec.upto (s : _root_.Go.ChangeSpec) : _root_.Go.OpenSpec := { _root_.Go.OpenSpec.ofChange s with cond := some uptoSmall }

/-- 'laws.FnExactRiseMiss', WHERE WHAT IT READS IS OF BULK AT MOST 1048576: true; the input reads as it did. -/
def fnExactRiseMissUptoRow : OpenClaim := { program := "ytophpmdlgphihan", sum := "a48d197bae770c27b6dfbc6370f10650362e38e09eba857971ce481f880e171c", func := "loop.example/countedchances/laws.FnExactRiseMiss", spec := "fnExactRiseMiss", apart := false, narrowed := true }
def FnExactRiseMissUptoSaid : Prop := fnExactRiseMissUptoRow.holds Try.pinned (OpenSpec.upto fnExactRiseMissSpec)

/-- 'laws.FnRiseMiss', WHERE WHAT IT READS IS OF BULK AT MOST 1048576: true; the input reads as it did. -/
def fnRiseMissUptoRow : OpenClaim := { program := "ytophpmdlgphihan", sum := "a48d197bae770c27b6dfbc6370f10650362e38e09eba857971ce481f880e171c", func := "loop.example/countedchances/laws.FnRiseMiss", spec := "fnRiseMiss", apart := false, narrowed := true }
def FnRiseMissUptoSaid : Prop := fnRiseMissUptoRow.holds Try.pinned (OpenSpec.upto fnRiseMissSpec)

end Rows
end Go.Proofs.Ytophpmdlgphihan
