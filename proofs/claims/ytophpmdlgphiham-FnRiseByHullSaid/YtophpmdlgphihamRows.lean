/-
  No cell of these rows narrows 'for every input' (looked for: loops, veiled, ifaces, maps, wideKeys, modest, calm, conditions, laid).
  DERIVED. THE GIVEN ROWS OF THIS SEAT. 2 by the template 'for every input the law returns true; each argument reads behind the call as it read before'; 0 by the template 'total and deterministic' (their statements: YtophpmdlgphihamTotals.lean).
  GIVEN WITH THE SEED: the statements are not yours to turn. If you find one false, say at which input.
  Laid BY PROGRAM, IN A SANDBOX (cutbox-rows.mjs): the forced cells as the released guide's own fill.sh prints them over the translation 726f4a11f0601007… (all of the seat's roots in one cut). By AI agents, Wed Nov 11 2026. No macro, syntax, notation, axiom, sorry.
-/
import Derived.Test.YtophpmdlgphihamChecked
import GoSem.Claim
import GoSem.ClaimJoined
import GoSem.ClaimMapViews
import Derived.JoinedTies
import Derived.KernelRfl
namespace Go.Proofs.Ytophpmdlgphiham
/- THE CELL 'sum', in the pinned program and in every row, IS THE sha256 OF THE DUMP (.gsa) THAT YtophpmdlgphihamProg.lean LOADS. Nothing in Lean hashes anything: it is a label: what it is worth is what the hold of that sum in a sandbox is worth. -/
noncomputable def Try.pinned : Pinned := { name := "ytophpmdlgphiham", sum := "726f4a11f0601007d71953d0942f773f23dc6e235814236eb9a259b30a8e53df", checked := Try.checked }
namespace Rows
def none {H : Type} : Left H := { results := [], args := [] }

/-- 'laws.FnExactRiseByHull': WHATEVER THE INPUT: true; the input reads as it did. -/
def fnExactRiseByHullSpec : ChangeSpec := { name := "fnExactRiseByHull", fn := fun _ => fun
  | [d1, d2] => { results := [.lit (.bool true)], args := [d1, d2] }
  | _ => none }
def fnExactRiseByHullRow : OpenClaim := { program := "ytophpmdlgphiham", sum := "726f4a11f0601007d71953d0942f773f23dc6e235814236eb9a259b30a8e53df", func := "loop.example/countedchances/laws.FnExactRiseByHull", spec := "fnExactRiseByHull", apart := false }
def FnExactRiseByHullSaid : Prop := fnExactRiseByHullRow.holds Try.pinned (OpenSpec.ofChange fnExactRiseByHullSpec)

/-- ITS FALSE NEIGHBOUR: 'it returns false'. Refute it at one input. -/
def fnExactRiseByHullWrong : ChangeSpec := { name := "fnExactRiseByHull", fn := fun _ => fun
  | [d1, d2] => { results := [.lit (.bool false)], args := [d1, d2] }
  | _ => none }
def FnExactRiseByHullWrongFalsely : Prop := fnExactRiseByHullRow.holds Try.pinned (OpenSpec.ofChange fnExactRiseByHullWrong)

/-- 'laws.FnRiseByHull': WHATEVER THE INPUT: true; the input reads as it did. -/
def fnRiseByHullSpec : ChangeSpec := { name := "fnRiseByHull", fn := fun _ => fun
  | [d] => { results := [.lit (.bool true)], args := [d] }
  | _ => none }
def fnRiseByHullRow : OpenClaim := { program := "ytophpmdlgphiham", sum := "726f4a11f0601007d71953d0942f773f23dc6e235814236eb9a259b30a8e53df", func := "loop.example/countedchances/laws.FnRiseByHull", spec := "fnRiseByHull", apart := false }
def FnRiseByHullSaid : Prop := fnRiseByHullRow.holds Try.pinned (OpenSpec.ofChange fnRiseByHullSpec)

/-- ITS FALSE NEIGHBOUR: 'it returns false'. Refute it at one input. -/
def fnRiseByHullWrong : ChangeSpec := { name := "fnRiseByHull", fn := fun _ => fun
  | [d] => { results := [.lit (.bool false)], args := [d] }
  | _ => none }
def FnRiseByHullWrongFalsely : Prop := fnRiseByHullRow.holds Try.pinned (OpenSpec.ofChange fnRiseByHullWrong)

/- THE SECOND FORM. 'bulk': how many values and letters a reading holds, each counted each time it is reached (what is shared counts as often as it is met; a slice's spare places count too). A statement '..UptoSaid' is the law's where the arguments, and the package variables that the reading takes, are together of bulk at most 1048576: NARROWER than '..Said'. Prove '..Said' where nothing that the law and all that it calls make is longer than what came in: it says more and counts as full. Else prove '..UptoSaid'. A law counts once. -/
mutual
def uptoBulk {H : Type} : DataW H → Nat
  | .lit (.string bytes) => bytes.length + 1
  | .lit _ => 1
  | .nil => 1
  | .ptr d => uptoBulk d + 1
  | .slice elems spare => uptoBulkAll elems + uptoBulkAll spare + 1
  | .agg parts => uptoBulkAll parts + 1
  | .iface _ d => uptoBulk d + 1
  | .map entries => uptoBulkEntries entries + 1
  | .held _ => 1
def uptoBulkAll {H : Type} : List (DataW H) → Nat
  | [] => 0
  | d :: r => uptoBulk d + uptoBulkAll r
def uptoBulkEntries {H : Type} : List (Lit × DataW H) → Nat
  | [] => 0
  | x :: r => uptoBulkEntry x + uptoBulkEntries r
def uptoBulkEntry {H : Type} : Lit × DataW H → Nat
  | (.string bytes, d) => bytes.length + uptoBulk d + 1
  | (_, d) => uptoBulk d + 1
 end
def uptoSmall : (H : Type) → List (DataW H) → Bool := fun _ ds => decide (uptoBulkAll ds ≤ 1048576)
def OpenSpec.upto (s : _root_.Go.ChangeSpec) : _root_.Go.OpenSpec := { _root_.Go.OpenSpec.ofChange s with cond := some uptoSmall }

/-- 'laws.FnExactRiseByHull', WHERE WHAT IT READS IS OF BULK AT MOST 1048576: true; the input reads as it did. -/
def fnExactRiseByHullUptoRow : OpenClaim := { program := "ytophpmdlgphiham", sum := "726f4a11f0601007d71953d0942f773f23dc6e235814236eb9a259b30a8e53df", func := "loop.example/countedchances/laws.FnExactRiseByHull", spec := "fnExactRiseByHull", apart := false, narrowed := true }
def FnExactRiseByHullUptoSaid : Prop := fnExactRiseByHullUptoRow.holds Try.pinned (OpenSpec.upto fnExactRiseByHullSpec)

/-- 'laws.FnRiseByHull', WHERE WHAT IT READS IS OF BULK AT MOST 1048576: true; the input reads as it did. -/
def fnRiseByHullUptoRow : OpenClaim := { program := "ytophpmdlgphiham", sum := "726f4a11f0601007d71953d0942f773f23dc6e235814236eb9a259b30a8e53df", func := "loop.example/countedchances/laws.FnRiseByHull", spec := "fnRiseByHull", apart := false, narrowed := true }
def FnRiseByHullUptoSaid : Prop := fnRiseByHullUptoRow.holds Try.pinned (OpenSpec.upto fnRiseByHullSpec)

end Rows
end Go.Proofs.Ytophpmdlgphiham
