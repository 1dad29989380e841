/-
  No cell of these rows narrows 'for every input' (looked for: loops, veiled, ifaces, maps, wideKeys, modest, calm, conditions, laid).
  DERIVED. THE GIVEN ROWS OF THIS SEAT. 3 by the template 'for every input the law returns true; each argument reads behind the call as it read before'; 0 by the template 'total and deterministic' (their statements: YtjbcebljimdpfaaTotals.lean).
  GIVEN WITH THE SEED: the statements are not yours to turn. If you find one false, say at which input.
  Laid BY PROGRAM, IN A SANDBOX (cutbox-rows.mjs): the forced cells as the released guide's own fill.sh prints them over the translation 696e551204792e95… (all of the seat's roots in one cut). By AI agents, Wed Nov 11 2026. No macro, syntax, notation, axiom, sorry.
-/
import Derived.Test.YtjbcebljimdpfaaChecked
import GoSem.Claim
import GoSem.ClaimJoined
import GoSem.ClaimMapViews
import Derived.JoinedTies
import Derived.KernelRfl
namespace Go.Proofs.Ytjbcebljimdpfaa
/- THE CELL 'sum', in the pinned program and in every row, IS THE sha256 OF THE DUMP (.gsa) THAT YtjbcebljimdpfaaProg.lean LOADS. Nothing in Lean hashes anything: it is a label: what it is worth is what the hold of that sum in a sandbox is worth. -/
noncomputable def Try.pinned : Pinned := { name := "ytjbcebljimdpfaa", sum := "696e551204792e95f23bc2ef712be33479d6577e4db999d07b45cb7ce8c4c2cd", checked := Try.checked }
namespace Rows
def none {H : Type} : Left H := { results := [], args := [] }

/-- 'laws.FnTimesAll': WHATEVER THE INPUT: true; the input reads as it did. -/
def fnTimesAllSpec : ChangeSpec := { name := "fnTimesAll", fn := fun _ => fun
  | [d] => { results := [.lit (.bool true)], args := [d] }
  | _ => none }
def fnTimesAllRow : OpenClaim := { program := "ytjbcebljimdpfaa", sum := "696e551204792e95f23bc2ef712be33479d6577e4db999d07b45cb7ce8c4c2cd", func := "loop.example/countedchances/laws.FnTimesAll", spec := "fnTimesAll", unfollowed := true, recurses := true, apart := false }
def FnTimesAllSaid : Prop := fnTimesAllRow.holds Try.pinned (OpenSpec.ofChange fnTimesAllSpec)

/-- ITS FALSE NEIGHBOUR: 'it returns false'. Refute it at one input. -/
def fnTimesAllWrong : ChangeSpec := { name := "fnTimesAll", fn := fun _ => fun
  | [d] => { results := [.lit (.bool false)], args := [d] }
  | _ => none }
def FnTimesAllWrongFalsely : Prop := fnTimesAllRow.holds Try.pinned (OpenSpec.ofChange fnTimesAllWrong)

/-- 'laws.FnStepDown': WHATEVER THE INPUT: true; the input reads as it did. -/
def fnStepDownSpec : ChangeSpec := { name := "fnStepDown", fn := fun _ => fun
  | [d] => { results := [.lit (.bool true)], args := [d] }
  | _ => none }
def fnStepDownRow : OpenClaim := { program := "ytjbcebljimdpfaa", sum := "696e551204792e95f23bc2ef712be33479d6577e4db999d07b45cb7ce8c4c2cd", func := "loop.example/countedchances/laws.FnStepDown", spec := "fnStepDown", unfollowed := true, recurses := true, apart := false }
def FnStepDownSaid : Prop := fnStepDownRow.holds Try.pinned (OpenSpec.ofChange fnStepDownSpec)

/-- ITS FALSE NEIGHBOUR: 'it returns false'. Refute it at one input. -/
def fnStepDownWrong : ChangeSpec := { name := "fnStepDown", fn := fun _ => fun
  | [d] => { results := [.lit (.bool false)], args := [d] }
  | _ => none }
def FnStepDownWrongFalsely : Prop := fnStepDownRow.holds Try.pinned (OpenSpec.ofChange fnStepDownWrong)

/-- 'laws.FnStepUp': WHATEVER THE INPUT: true; the input reads as it did. -/
def fnStepUpSpec : ChangeSpec := { name := "fnStepUp", fn := fun _ => fun
  | [d] => { results := [.lit (.bool true)], args := [d] }
  | _ => none }
def fnStepUpRow : OpenClaim := { program := "ytjbcebljimdpfaa", sum := "696e551204792e95f23bc2ef712be33479d6577e4db999d07b45cb7ce8c4c2cd", func := "loop.example/countedchances/laws.FnStepUp", spec := "fnStepUp", unfollowed := true, recurses := true, apart := false }
def FnStepUpSaid : Prop := fnStepUpRow.holds Try.pinned (OpenSpec.ofChange fnStepUpSpec)

/-- ITS FALSE NEIGHBOUR: 'it returns false'. Refute it at one input. -/
def fnStepUpWrong : ChangeSpec := { name := "fnStepUp", fn := fun _ => fun
  | [d] => { results := [.lit (.bool false)], args := [d] }
  | _ => none }
def FnStepUpWrongFalsely : Prop := fnStepUpRow.holds Try.pinned (OpenSpec.ofChange fnStepUpWrong)

/- THE SECOND FORM. 'bulk': how many values and letters a reading holds, each counted each time it is reached (what is shared counts as often as it is met; a slice's spare places count too). A statement '..UptoSaid' is the law's where the arguments, and the package variables that the reading takes, are together of bulk at most 1048576: NARROWER than '..Said'. Prove '..Said' where nothing that the law and all that it calls make is longer than what came in: it says more and counts as full. Else prove '..UptoSaid'. A law counts once. -/
mutual
def uptoBulk {H : Type} : DataW H → Nat
  | .lit (.string bytes) => bytes.length + 1
  | .lit _ => 1
  | .nil => 1
  | .ptr d => uptoBulk d + 1
  | .slice elems spare => uptoBulkAll elems + uptoBulkAll spare + 1
  | .agg parts => uptoBulkAll parts + 1
  | .iface _ d => uptoBulk d + 1
  | .map entries => uptoBulkEntries entries + 1
  | .held _ => 1
def uptoBulkAll {H : Type} : List (DataW H) → Nat
  | [] => 0
  | d :: r => uptoBulk d + uptoBulkAll r
def uptoBulkEntries {H : Type} : List (Lit × DataW H) → Nat
  | [] => 0
  | x :: r => uptoBulkEntry x + uptoBulkEntries r
def uptoBulkEntry {H : Type} : Lit × DataW H → Nat
  | (.string bytes, d) => bytes.length + uptoBulk d + 1
  | (_, d) => uptoBulk d + 1
 end
def uptoSmall : (H : Type) → List (DataW H) → Bool := fun _ ds => decide (uptoBulkAll ds ≤ 1048576)
def OpenSpec.upto (s : _root_.Go.ChangeSpec) : _root_.Go.OpenSpec := { _root_.Go.OpenSpec.ofChange s with cond := some uptoSmall }

/-- 'laws.FnTimesAll', WHERE WHAT IT READS IS OF BULK AT MOST 1048576: true; the input reads as it did. -/
def fnTimesAllUptoRow : OpenClaim := { program := "ytjbcebljimdpfaa", sum := "696e551204792e95f23bc2ef712be33479d6577e4db999d07b45cb7ce8c4c2cd", func := "loop.example/countedchances/laws.FnTimesAll", spec := "fnTimesAll", unfollowed := true, recurses := true, apart := false, narrowed := true }
def FnTimesAllUptoSaid : Prop := fnTimesAllUptoRow.holds Try.pinned (OpenSpec.upto fnTimesAllSpec)

/-- 'laws.FnStepDown', WHERE WHAT IT READS IS OF BULK AT MOST 1048576: true; the input reads as it did. -/
def fnStepDownUptoRow : OpenClaim := { program := "ytjbcebljimdpfaa", sum := "696e551204792e95f23bc2ef712be33479d6577e4db999d07b45cb7ce8c4c2cd", func := "loop.example/countedchances/laws.FnStepDown", spec := "fnStepDown", unfollowed := true, recurses := true, apart := false, narrowed := true }
def FnStepDownUptoSaid : Prop := fnStepDownUptoRow.holds Try.pinned (OpenSpec.upto fnStepDownSpec)

/-- 'laws.FnStepUp', WHERE WHAT IT READS IS OF BULK AT MOST 1048576: true; the input reads as it did. -/
def fnStepUpUptoRow : OpenClaim := { program := "ytjbcebljimdpfaa", sum := "696e551204792e95f23bc2ef712be33479d6577e4db999d07b45cb7ce8c4c2cd", func := "loop.example/countedchances/laws.FnStepUp", spec := "fnStepUp", unfollowed := true, recurses := true, apart := false, narrowed := true }
def FnStepUpUptoSaid : Prop := fnStepUpUptoRow.holds Try.pinned (OpenSpec.upto fnStepUpSpec)

end Rows
end Go.Proofs.Ytjbcebljimdpfaa
