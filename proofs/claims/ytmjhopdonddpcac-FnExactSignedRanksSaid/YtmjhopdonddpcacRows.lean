/-
  No cell of these rows narrows 'for every input' (looked for: loops, veiled, ifaces, maps, wideKeys, modest, calm, conditions, laid).
  DERIVED. THE GIVEN ROWS OF THIS SEAT. 4 by the template 'for every input the law returns true; each argument reads behind the call as it read before'; 0 by the template 'total and deterministic' (their statements: YtmjhopdonddpcacTotals.lean).
  GIVEN WITH THE SEED: the statements are not yours to turn. If you find one false, say at which input.
  Laid BY PROGRAM, IN A SANDBOX (cutbox-rows.mjs): the forced cells as the released guide's own fill.sh prints them over the translation 2547a6f8bd19c3ea… (all of the seat's roots in one cut). By AI agents, Wed Nov 11 2026. No macro, syntax, notation, axiom, sorry.
-/
import Derived.Test.YtmjhopdonddpcacChecked
import GoSem.Claim
import GoSem.ClaimJoined
import GoSem.ClaimMapViews
import Derived.JoinedTies
import Derived.KernelRfl
namespace Go.Proofs.Ytmjhopdonddpcac
/- THE CELL 'sum', in the pinned program and in every row, IS THE sha256 OF THE DUMP (.gsa) THAT YtmjhopdonddpcacProg.lean LOADS. Nothing in Lean hashes anything: it is a label: what it is worth is what the hold of that sum in a sandbox is worth. -/
noncomputable def Try.pinned : Pinned := { name := "ytmjhopdonddpcac", sum := "2547a6f8bd19c3eafa71455d1576384a3280cd99bb2c19cbfd8e24e18b0e3b32", checked := Try.checked }
namespace Rows
def none {H : Type} : Left H := { results := [], args := [] }

/-- 'laws.FnExactFlipChance': WHATEVER THE INPUT: true; the input reads as it did. -/
def fnExactFlipChanceSpec : ChangeSpec := { name := "fnExactFlipChance", fn := fun _ => fun
  | [d] => { results := [.lit (.bool true)], args := [d] }
  | _ => none }
def fnExactFlipChanceRow : OpenClaim := { program := "ytmjhopdonddpcac", sum := "2547a6f8bd19c3eafa71455d1576384a3280cd99bb2c19cbfd8e24e18b0e3b32", func := "loop.example/countedchances/laws.FnExactFlipChance", spec := "fnExactFlipChance", recurses := true, apart := false }
def FnExactFlipChanceSaid : Prop := fnExactFlipChanceRow.holds Try.pinned (OpenSpec.ofChange fnExactFlipChanceSpec)

/-- ITS FALSE NEIGHBOUR: 'it returns false'. Refute it at one input. -/
def fnExactFlipChanceWrong : ChangeSpec := { name := "fnExactFlipChance", fn := fun _ => fun
  | [d] => { results := [.lit (.bool false)], args := [d] }
  | _ => none }
def FnExactFlipChanceWrongFalsely : Prop := fnExactFlipChanceRow.holds Try.pinned (OpenSpec.ofChange fnExactFlipChanceWrong)

/-- 'laws.FnExactSignedRanks': WHATEVER THE INPUT: true; the input reads as it did. -/
def fnExactSignedRanksSpec : ChangeSpec := { name := "fnExactSignedRanks", fn := fun _ => fun
  | [d] => { results := [.lit (.bool true)], args := [d] }
  | _ => none }
def fnExactSignedRanksRow : OpenClaim := { program := "ytmjhopdonddpcac", sum := "2547a6f8bd19c3eafa71455d1576384a3280cd99bb2c19cbfd8e24e18b0e3b32", func := "loop.example/countedchances/laws.FnExactSignedRanks", spec := "fnExactSignedRanks", apart := false }
def FnExactSignedRanksSaid : Prop := fnExactSignedRanksRow.holds Try.pinned (OpenSpec.ofChange fnExactSignedRanksSpec)

/-- ITS FALSE NEIGHBOUR: 'it returns false'. Refute it at one input. -/
def fnExactSignedRanksWrong : ChangeSpec := { name := "fnExactSignedRanks", fn := fun _ => fun
  | [d] => { results := [.lit (.bool false)], args := [d] }
  | _ => none }
def FnExactSignedRanksWrongFalsely : Prop := fnExactSignedRanksRow.holds Try.pinned (OpenSpec.ofChange fnExactSignedRanksWrong)

/-- 'laws.FnExactRankSums': WHATEVER THE INPUT: true; the input reads as it did. -/
def fnExactRankSumsSpec : ChangeSpec := { name := "fnExactRankSums", fn := fun _ => fun
  | [d] => { results := [.lit (.bool true)], args := [d] }
  | _ => none }
def fnExactRankSumsRow : OpenClaim := { program := "ytmjhopdonddpcac", sum := "2547a6f8bd19c3eafa71455d1576384a3280cd99bb2c19cbfd8e24e18b0e3b32", func := "loop.example/countedchances/laws.FnExactRankSums", spec := "fnExactRankSums", apart := false }
def FnExactRankSumsSaid : Prop := fnExactRankSumsRow.holds Try.pinned (OpenSpec.ofChange fnExactRankSumsSpec)

/-- ITS FALSE NEIGHBOUR: 'it returns false'. Refute it at one input. -/
def fnExactRankSumsWrong : ChangeSpec := { name := "fnExactRankSums", fn := fun _ => fun
  | [d] => { results := [.lit (.bool false)], args := [d] }
  | _ => none }
def FnExactRankSumsWrongFalsely : Prop := fnExactRankSumsRow.holds Try.pinned (OpenSpec.ofChange fnExactRankSumsWrong)

/-- 'laws.FnExactRunCount': WHATEVER THE INPUT: true; the input reads as it did. -/
def fnExactRunCountSpec : ChangeSpec := { name := "fnExactRunCount", fn := fun _ => fun
  | [d1, d2, d3] => { results := [.lit (.bool true)], args := [d1, d2, d3] }
  | _ => none }
def fnExactRunCountRow : OpenClaim := { program := "ytmjhopdonddpcac", sum := "2547a6f8bd19c3eafa71455d1576384a3280cd99bb2c19cbfd8e24e18b0e3b32", func := "loop.example/countedchances/laws.FnExactRunCount", spec := "fnExactRunCount", unfollowed := true, recurses := true, apart := false }
def FnExactRunCountSaid : Prop := fnExactRunCountRow.holds Try.pinned (OpenSpec.ofChange fnExactRunCountSpec)

/-- ITS FALSE NEIGHBOUR: 'it returns false'. Refute it at one input. -/
def fnExactRunCountWrong : ChangeSpec := { name := "fnExactRunCount", fn := fun _ => fun
  | [d1, d2, d3] => { results := [.lit (.bool false)], args := [d1, d2, d3] }
  | _ => none }
def FnExactRunCountWrongFalsely : Prop := fnExactRunCountRow.holds Try.pinned (OpenSpec.ofChange fnExactRunCountWrong)

/- THE SECOND FORM. 'bulk': how many values and letters a reading holds, each counted each time it is reached (what is shared counts as often as it is met; a slice's spare places count too). A statement '..UptoSaid' is the law's where the arguments, and the package variables that the reading takes, are together of bulk at most 1048576: NARROWER than '..Said'. Prove '..Said' where nothing that the law and all that it calls make is longer than what came in: it says more and counts as full. Else prove '..UptoSaid'. A law counts once. -/
mutual
def uptoBulk {H : Type} : DataW H → Nat
  | .lit (.string bytes) => bytes.length + 1
  | .lit _ => 1
  | .nil => 1
  | .ptr d => uptoBulk d + 1
  | .slice elems spare => uptoBulkAll elems + uptoBulkAll spare + 1
  | .agg parts => uptoBulkAll parts + 1
  | .iface _ d => uptoBulk d + 1
  | .map entries => uptoBulkEntries entries + 1
  | .held _ => 1
def uptoBulkAll {H : Type} : List (DataW H) → Nat
  | [] => 0
  | d :: r => uptoBulk d + uptoBulkAll r
def uptoBulkEntries {H : Type} : List (Lit × DataW H) → Nat
  | [] => 0
  | x :: r => uptoBulkEntry x + uptoBulkEntries r
def uptoBulkEntry {H : Type} : Lit × DataW H → Nat
  | (.string bytes, d) => bytes.length + uptoBulk d + 1
  | (_, d) => uptoBulk d + 1
 end
def uptoSmall : (H : Type) → List (DataW H) → Bool := fun _ ds => decide (uptoBulkAll ds ≤ 1048576)
def OpenSpec.upto (s : _root_.Go.ChangeSpec) : _root_.Go.OpenSpec := { _root_.Go.OpenSpec.ofChange s with cond := some uptoSmall }

/-- 'laws.FnExactFlipChance', WHERE WHAT IT READS IS OF BULK AT MOST 1048576: true; the input reads as it did. -/
def fnExactFlipChanceUptoRow : OpenClaim := { program := "ytmjhopdonddpcac", sum := "2547a6f8bd19c3eafa71455d1576384a3280cd99bb2c19cbfd8e24e18b0e3b32", func := "loop.example/countedchances/laws.FnExactFlipChance", spec := "fnExactFlipChance", recurses := true, apart := false, narrowed := true }
def FnExactFlipChanceUptoSaid : Prop := fnExactFlipChanceUptoRow.holds Try.pinned (OpenSpec.upto fnExactFlipChanceSpec)

/-- 'laws.FnExactSignedRanks', WHERE WHAT IT READS IS OF BULK AT MOST 1048576: true; the input reads as it did. -/
def fnExactSignedRanksUptoRow : OpenClaim := { program := "ytmjhopdonddpcac", sum := "2547a6f8bd19c3eafa71455d1576384a3280cd99bb2c19cbfd8e24e18b0e3b32", func := "loop.example/countedchances/laws.FnExactSignedRanks", spec := "fnExactSignedRanks", apart := false, narrowed := true }
def FnExactSignedRanksUptoSaid : Prop := fnExactSignedRanksUptoRow.holds Try.pinned (OpenSpec.upto fnExactSignedRanksSpec)

/-- 'laws.FnExactRankSums', WHERE WHAT IT READS IS OF BULK AT MOST 1048576: true; the input reads as it did. -/
def fnExactRankSumsUptoRow : OpenClaim := { program := "ytmjhopdonddpcac", sum := "2547a6f8bd19c3eafa71455d1576384a3280cd99bb2c19cbfd8e24e18b0e3b32", func := "loop.example/countedchances/laws.FnExactRankSums", spec := "fnExactRankSums", apart := false, narrowed := true }
def FnExactRankSumsUptoSaid : Prop := fnExactRankSumsUptoRow.holds Try.pinned (OpenSpec.upto fnExactRankSumsSpec)

/-- 'laws.FnExactRunCount', WHERE WHAT IT READS IS OF BULK AT MOST 1048576: true; the input reads as it did. -/
def fnExactRunCountUptoRow : OpenClaim := { program := "ytmjhopdonddpcac", sum := "2547a6f8bd19c3eafa71455d1576384a3280cd99bb2c19cbfd8e24e18b0e3b32", func := "loop.example/countedchances/laws.FnExactRunCount", spec := "fnExactRunCount", unfollowed := true, recurses := true, apart := false, narrowed := true }
def FnExactRunCountUptoSaid : Prop := fnExactRunCountUptoRow.holds Try.pinned (OpenSpec.upto fnExactRunCountSpec)

end Rows
end Go.Proofs.Ytmjhopdonddpcac
