/-
  No cell of these rows narrows 'for every input' (looked for: loops, veiled, ifaces, maps, wideKeys, modest, calm, conditions, laid).
  DERIVED. THE GIVEN ROWS OF THIS SEAT. 14 by the template 'for every input the law returns true; each argument reads behind the call as it read before'; 0 by the template 'total and deterministic' (their statements: YtieibdgdfpeihaaTotals.lean).
  GIVEN WITH THE SEED: the statements are not yours to turn. If you find one false, say at which input.
  Laid BY PROGRAM, IN A SANDBOX (cutbox-rows.mjs): the forced cells as the released guide's own fill.sh prints them over the translation 0409934f0ceee15e… (all of the seat's roots in one cut). By AI agents, Wed Nov 11 2026. No macro, syntax, notation, axiom, sorry.
-/
import Derived.Test.YtieibdgdfpeihaaChecked
import GoSem.Claim
import GoSem.ClaimJoined
import GoSem.ClaimMapViews
import Derived.JoinedTies
import Derived.KernelRfl
namespace Go.Proofs.Ytieibdgdfpeihaa
/- THE CELL 'sum', in the pinned program and in every row, IS THE sha256 OF THE DUMP (.gsa) THAT YtieibdgdfpeihaaProg.lean LOADS. Nothing in Lean hashes anything: it is a label: what it is worth is what the hold of that sum in a sandbox is worth. -/
noncomputable def Try.pinned : Pinned := { name := "ytieibdgdfpeihaa", sum := "0409934f0ceee15e0217cb227d8ddd3e6e4cc5d3773a393f807e77c088b3993a", checked := Try.checked }
namespace Rows
def none {H : Type} : Left H := { results := [], args := [] }

/-- 'laws.FnValidOdds': WHATEVER THE INPUT: true; the input reads as it did. -/
def fnValidOddsSpec : ChangeSpec := { name := "fnValidOdds", fn := fun _ => fun
  | [d] => { results := [.lit (.bool true)], args := [d] }
  | _ => none }
def fnValidOddsRow : OpenClaim := { program := "ytieibdgdfpeihaa", sum := "0409934f0ceee15e0217cb227d8ddd3e6e4cc5d3773a393f807e77c088b3993a", func := "loop.example/countedchances/laws.FnValidOdds", spec := "fnValidOdds", apart := false }
def FnValidOddsSaid : Prop := fnValidOddsRow.holds Try.pinned (OpenSpec.ofChange fnValidOddsSpec)

/-- ITS FALSE NEIGHBOUR: 'it returns false'. Refute it at one input. -/
def fnValidOddsWrong : ChangeSpec := { name := "fnValidOdds", fn := fun _ => fun
  | [d] => { results := [.lit (.bool false)], args := [d] }
  | _ => none }
def FnValidOddsWrongFalsely : Prop := fnValidOddsRow.holds Try.pinned (OpenSpec.ofChange fnValidOddsWrong)

/-- 'laws.FnTimesAll': WHATEVER THE INPUT: true; the input reads as it did. -/
def fnTimesAllSpec : ChangeSpec := { name := "fnTimesAll", fn := fun _ => fun
  | [d] => { results := [.lit (.bool true)], args := [d] }
  | _ => none }
def fnTimesAllRow : OpenClaim := { program := "ytieibdgdfpeihaa", sum := "0409934f0ceee15e0217cb227d8ddd3e6e4cc5d3773a393f807e77c088b3993a", func := "loop.example/countedchances/laws.FnTimesAll", spec := "fnTimesAll", unfollowed := true, recurses := true, apart := false }
def FnTimesAllSaid : Prop := fnTimesAllRow.holds Try.pinned (OpenSpec.ofChange fnTimesAllSpec)

/-- ITS FALSE NEIGHBOUR: 'it returns false'. Refute it at one input. -/
def fnTimesAllWrong : ChangeSpec := { name := "fnTimesAll", fn := fun _ => fun
  | [d] => { results := [.lit (.bool false)], args := [d] }
  | _ => none }
def FnTimesAllWrongFalsely : Prop := fnTimesAllRow.holds Try.pinned (OpenSpec.ofChange fnTimesAllWrong)

/-- 'laws.FnStepDown': WHATEVER THE INPUT: true; the input reads as it did. -/
def fnStepDownSpec : ChangeSpec := { name := "fnStepDown", fn := fun _ => fun
  | [d] => { results := [.lit (.bool true)], args := [d] }
  | _ => none }
def fnStepDownRow : OpenClaim := { program := "ytieibdgdfpeihaa", sum := "0409934f0ceee15e0217cb227d8ddd3e6e4cc5d3773a393f807e77c088b3993a", func := "loop.example/countedchances/laws.FnStepDown", spec := "fnStepDown", unfollowed := true, recurses := true, apart := false }
def FnStepDownSaid : Prop := fnStepDownRow.holds Try.pinned (OpenSpec.ofChange fnStepDownSpec)

/-- ITS FALSE NEIGHBOUR: 'it returns false'. Refute it at one input. -/
def fnStepDownWrong : ChangeSpec := { name := "fnStepDown", fn := fun _ => fun
  | [d] => { results := [.lit (.bool false)], args := [d] }
  | _ => none }
def FnStepDownWrongFalsely : Prop := fnStepDownRow.holds Try.pinned (OpenSpec.ofChange fnStepDownWrong)

/-- 'laws.FnStepUp': WHATEVER THE INPUT: true; the input reads as it did. -/
def fnStepUpSpec : ChangeSpec := { name := "fnStepUp", fn := fun _ => fun
  | [d] => { results := [.lit (.bool true)], args := [d] }
  | _ => none }
def fnStepUpRow : OpenClaim := { program := "ytieibdgdfpeihaa", sum := "0409934f0ceee15e0217cb227d8ddd3e6e4cc5d3773a393f807e77c088b3993a", func := "loop.example/countedchances/laws.FnStepUp", spec := "fnStepUp", unfollowed := true, recurses := true, apart := false }
def FnStepUpSaid : Prop := fnStepUpRow.holds Try.pinned (OpenSpec.ofChange fnStepUpSpec)

/-- ITS FALSE NEIGHBOUR: 'it returns false'. Refute it at one input. -/
def fnStepUpWrong : ChangeSpec := { name := "fnStepUp", fn := fun _ => fun
  | [d] => { results := [.lit (.bool false)], args := [d] }
  | _ => none }
def FnStepUpWrongFalsely : Prop := fnStepUpRow.holds Try.pinned (OpenSpec.ofChange fnStepUpWrong)

/-- 'laws.FnFalseShare': WHATEVER THE INPUT: true; the input reads as it did. -/
def fnFalseShareSpec : ChangeSpec := { name := "fnFalseShare", fn := fun _ => fun
  | [d] => { results := [.lit (.bool true)], args := [d] }
  | _ => none }
def fnFalseShareRow : OpenClaim := { program := "ytieibdgdfpeihaa", sum := "0409934f0ceee15e0217cb227d8ddd3e6e4cc5d3773a393f807e77c088b3993a", func := "loop.example/countedchances/laws.FnFalseShare", spec := "fnFalseShare", unfollowed := true, recurses := true, apart := false }
def FnFalseShareSaid : Prop := fnFalseShareRow.holds Try.pinned (OpenSpec.ofChange fnFalseShareSpec)

/-- ITS FALSE NEIGHBOUR: 'it returns false'. Refute it at one input. -/
def fnFalseShareWrong : ChangeSpec := { name := "fnFalseShare", fn := fun _ => fun
  | [d] => { results := [.lit (.bool false)], args := [d] }
  | _ => none }
def FnFalseShareWrongFalsely : Prop := fnFalseShareRow.holds Try.pinned (OpenSpec.ofChange fnFalseShareWrong)

/-- 'laws.FnClosedBy': WHATEVER THE INPUT: true; the input reads as it did. -/
def fnClosedBySpec : ChangeSpec := { name := "fnClosedBy", fn := fun _ => fun
  | [d] => { results := [.lit (.bool true)], args := [d] }
  | _ => none }
def fnClosedByRow : OpenClaim := { program := "ytieibdgdfpeihaa", sum := "0409934f0ceee15e0217cb227d8ddd3e6e4cc5d3773a393f807e77c088b3993a", func := "loop.example/countedchances/laws.FnClosedBy", spec := "fnClosedBy", recurses := true, apart := false }
def FnClosedBySaid : Prop := fnClosedByRow.holds Try.pinned (OpenSpec.ofChange fnClosedBySpec)

/-- ITS FALSE NEIGHBOUR: 'it returns false'. Refute it at one input. -/
def fnClosedByWrong : ChangeSpec := { name := "fnClosedBy", fn := fun _ => fun
  | [d] => { results := [.lit (.bool false)], args := [d] }
  | _ => none }
def FnClosedByWrongFalsely : Prop := fnClosedByRow.holds Try.pinned (OpenSpec.ofChange fnClosedByWrong)

/-- 'laws.FnFoundAt': WHATEVER THE INPUT: true; the input reads as it did. -/
def fnFoundAtSpec : ChangeSpec := { name := "fnFoundAt", fn := fun _ => fun
  | [d] => { results := [.lit (.bool true)], args := [d] }
  | _ => none }
def fnFoundAtRow : OpenClaim := { program := "ytieibdgdfpeihaa", sum := "0409934f0ceee15e0217cb227d8ddd3e6e4cc5d3773a393f807e77c088b3993a", func := "loop.example/countedchances/laws.FnFoundAt", spec := "fnFoundAt", apart := false }
def FnFoundAtSaid : Prop := fnFoundAtRow.holds Try.pinned (OpenSpec.ofChange fnFoundAtSpec)

/-- ITS FALSE NEIGHBOUR: 'it returns false'. Refute it at one input. -/
def fnFoundAtWrong : ChangeSpec := { name := "fnFoundAt", fn := fun _ => fun
  | [d] => { results := [.lit (.bool false)], args := [d] }
  | _ => none }
def FnFoundAtWrongFalsely : Prop := fnFoundAtRow.holds Try.pinned (OpenSpec.ofChange fnFoundAtWrong)

/-- 'laws.FnExactValidOdds': WHATEVER THE INPUT: true; the input reads as it did. -/
def fnExactValidOddsSpec : ChangeSpec := { name := "fnExactValidOdds", fn := fun _ => fun
  | [d] => { results := [.lit (.bool true)], args := [d] }
  | _ => none }
def fnExactValidOddsRow : OpenClaim := { program := "ytieibdgdfpeihaa", sum := "0409934f0ceee15e0217cb227d8ddd3e6e4cc5d3773a393f807e77c088b3993a", func := "loop.example/countedchances/laws.FnExactValidOdds", spec := "fnExactValidOdds", apart := false }
def FnExactValidOddsSaid : Prop := fnExactValidOddsRow.holds Try.pinned (OpenSpec.ofChange fnExactValidOddsSpec)

/-- ITS FALSE NEIGHBOUR: 'it returns false'. Refute it at one input. -/
def fnExactValidOddsWrong : ChangeSpec := { name := "fnExactValidOdds", fn := fun _ => fun
  | [d] => { results := [.lit (.bool false)], args := [d] }
  | _ => none }
def FnExactValidOddsWrongFalsely : Prop := fnExactValidOddsRow.holds Try.pinned (OpenSpec.ofChange fnExactValidOddsWrong)

/-- 'laws.FnExactTimesAll': WHATEVER THE INPUT: true; the input reads as it did. -/
def fnExactTimesAllSpec : ChangeSpec := { name := "fnExactTimesAll", fn := fun _ => fun
  | [d] => { results := [.lit (.bool true)], args := [d] }
  | _ => none }
def fnExactTimesAllRow : OpenClaim := { program := "ytieibdgdfpeihaa", sum := "0409934f0ceee15e0217cb227d8ddd3e6e4cc5d3773a393f807e77c088b3993a", func := "loop.example/countedchances/laws.FnExactTimesAll", spec := "fnExactTimesAll", unfollowed := true, recurses := true, apart := false }
def FnExactTimesAllSaid : Prop := fnExactTimesAllRow.holds Try.pinned (OpenSpec.ofChange fnExactTimesAllSpec)

/-- ITS FALSE NEIGHBOUR: 'it returns false'. Refute it at one input. -/
def fnExactTimesAllWrong : ChangeSpec := { name := "fnExactTimesAll", fn := fun _ => fun
  | [d] => { results := [.lit (.bool false)], args := [d] }
  | _ => none }
def FnExactTimesAllWrongFalsely : Prop := fnExactTimesAllRow.holds Try.pinned (OpenSpec.ofChange fnExactTimesAllWrong)

/-- 'laws.FnExactStepDown': WHATEVER THE INPUT: true; the input reads as it did. -/
def fnExactStepDownSpec : ChangeSpec := { name := "fnExactStepDown", fn := fun _ => fun
  | [d] => { results := [.lit (.bool true)], args := [d] }
  | _ => none }
def fnExactStepDownRow : OpenClaim := { program := "ytieibdgdfpeihaa", sum := "0409934f0ceee15e0217cb227d8ddd3e6e4cc5d3773a393f807e77c088b3993a", func := "loop.example/countedchances/laws.FnExactStepDown", spec := "fnExactStepDown", unfollowed := true, recurses := true, apart := false }
def FnExactStepDownSaid : Prop := fnExactStepDownRow.holds Try.pinned (OpenSpec.ofChange fnExactStepDownSpec)

/-- ITS FALSE NEIGHBOUR: 'it returns false'. Refute it at one input. -/
def fnExactStepDownWrong : ChangeSpec := { name := "fnExactStepDown", fn := fun _ => fun
  | [d] => { results := [.lit (.bool false)], args := [d] }
  | _ => none }
def FnExactStepDownWrongFalsely : Prop := fnExactStepDownRow.holds Try.pinned (OpenSpec.ofChange fnExactStepDownWrong)

/-- 'laws.FnExactStepUp': WHATEVER THE INPUT: true; the input reads as it did. -/
def fnExactStepUpSpec : ChangeSpec := { name := "fnExactStepUp", fn := fun _ => fun
  | [d] => { results := [.lit (.bool true)], args := [d] }
  | _ => none }
def fnExactStepUpRow : OpenClaim := { program := "ytieibdgdfpeihaa", sum := "0409934f0ceee15e0217cb227d8ddd3e6e4cc5d3773a393f807e77c088b3993a", func := "loop.example/countedchances/laws.FnExactStepUp", spec := "fnExactStepUp", unfollowed := true, recurses := true, apart := false }
def FnExactStepUpSaid : Prop := fnExactStepUpRow.holds Try.pinned (OpenSpec.ofChange fnExactStepUpSpec)

/-- ITS FALSE NEIGHBOUR: 'it returns false'. Refute it at one input. -/
def fnExactStepUpWrong : ChangeSpec := { name := "fnExactStepUp", fn := fun _ => fun
  | [d] => { results := [.lit (.bool false)], args := [d] }
  | _ => none }
def FnExactStepUpWrongFalsely : Prop := fnExactStepUpRow.holds Try.pinned (OpenSpec.ofChange fnExactStepUpWrong)

/-- 'laws.FnExactFalseShare': WHATEVER THE INPUT: true; the input reads as it did. -/
def fnExactFalseShareSpec : ChangeSpec := { name := "fnExactFalseShare", fn := fun _ => fun
  | [d] => { results := [.lit (.bool true)], args := [d] }
  | _ => none }
def fnExactFalseShareRow : OpenClaim := { program := "ytieibdgdfpeihaa", sum := "0409934f0ceee15e0217cb227d8ddd3e6e4cc5d3773a393f807e77c088b3993a", func := "loop.example/countedchances/laws.FnExactFalseShare", spec := "fnExactFalseShare", unfollowed := true, recurses := true, apart := false }
def FnExactFalseShareSaid : Prop := fnExactFalseShareRow.holds Try.pinned (OpenSpec.ofChange fnExactFalseShareSpec)

/-- ITS FALSE NEIGHBOUR: 'it returns false'. Refute it at one input. -/
def fnExactFalseShareWrong : ChangeSpec := { name := "fnExactFalseShare", fn := fun _ => fun
  | [d] => { results := [.lit (.bool false)], args := [d] }
  | _ => none }
def FnExactFalseShareWrongFalsely : Prop := fnExactFalseShareRow.holds Try.pinned (OpenSpec.ofChange fnExactFalseShareWrong)

/-- 'laws.FnExactClosedBy': WHATEVER THE INPUT: true; the input reads as it did. -/
def fnExactClosedBySpec : ChangeSpec := { name := "fnExactClosedBy", fn := fun _ => fun
  | [d1, d2, d3] => { results := [.lit (.bool true)], args := [d1, d2, d3] }
  | _ => none }
def fnExactClosedByRow : OpenClaim := { program := "ytieibdgdfpeihaa", sum := "0409934f0ceee15e0217cb227d8ddd3e6e4cc5d3773a393f807e77c088b3993a", func := "loop.example/countedchances/laws.FnExactClosedBy", spec := "fnExactClosedBy", recurses := true, apart := false }
def FnExactClosedBySaid : Prop := fnExactClosedByRow.holds Try.pinned (OpenSpec.ofChange fnExactClosedBySpec)

/-- ITS FALSE NEIGHBOUR: 'it returns false'. Refute it at one input. -/
def fnExactClosedByWrong : ChangeSpec := { name := "fnExactClosedBy", fn := fun _ => fun
  | [d1, d2, d3] => { results := [.lit (.bool false)], args := [d1, d2, d3] }
  | _ => none }
def FnExactClosedByWrongFalsely : Prop := fnExactClosedByRow.holds Try.pinned (OpenSpec.ofChange fnExactClosedByWrong)

/-- 'laws.FnExactFoundAt': WHATEVER THE INPUT: true; the input reads as it did. -/
def fnExactFoundAtSpec : ChangeSpec := { name := "fnExactFoundAt", fn := fun _ => fun
  | [d1, d2] => { results := [.lit (.bool true)], args := [d1, d2] }
  | _ => none }
def fnExactFoundAtRow : OpenClaim := { program := "ytieibdgdfpeihaa", sum := "0409934f0ceee15e0217cb227d8ddd3e6e4cc5d3773a393f807e77c088b3993a", func := "loop.example/countedchances/laws.FnExactFoundAt", spec := "fnExactFoundAt", apart := false }
def FnExactFoundAtSaid : Prop := fnExactFoundAtRow.holds Try.pinned (OpenSpec.ofChange fnExactFoundAtSpec)

/-- ITS FALSE NEIGHBOUR: 'it returns false'. Refute it at one input. -/
def fnExactFoundAtWrong : ChangeSpec := { name := "fnExactFoundAt", fn := fun _ => fun
  | [d1, d2] => { results := [.lit (.bool false)], args := [d1, d2] }
  | _ => none }
def FnExactFoundAtWrongFalsely : Prop := fnExactFoundAtRow.holds Try.pinned (OpenSpec.ofChange fnExactFoundAtWrong)

/- THE SECOND FORM. 'bulk': how many values and letters a reading holds, each counted each time it is reached (what is shared counts as often as it is met; a slice's spare places count too). A statement '..UptoSaid' is the law's where the arguments, and the package variables that the reading takes, are together of bulk at most 1048576: NARROWER than '..Said'. Prove '..Said' where nothing that the law and all that it calls make is longer than what came in: it says more and counts as full. Else prove '..UptoSaid'. A law counts once. -/
mutual
def uptoBulk {H : Type} : DataW H → Nat
  | .lit (.string bytes) => bytes.length + 1
  | .lit _ => 1
  | .nil => 1
  | .ptr d => uptoBulk d + 1
  | .slice elems spare => uptoBulkAll elems + uptoBulkAll spare + 1
  | .agg parts => uptoBulkAll parts + 1
  | .iface _ d => uptoBulk d + 1
  | .map entries => uptoBulkEntries entries + 1
  | .held _ => 1
def uptoBulkAll {H : Type} : List (DataW H) → Nat
  | [] => 0
  | d :: r => uptoBulk d + uptoBulkAll r
def uptoBulkEntries {H : Type} : List (Lit × DataW H) → Nat
  | [] => 0
  | x :: r => uptoBulkEntry x + uptoBulkEntries r
def uptoBulkEntry {H : Type} : Lit × DataW H → Nat
  | (.string bytes, d) => bytes.length + uptoBulk d + 1
  | (_, d) => uptoBulk d + 1
 end
def uptoSmall : (H : Type) → List (DataW H) → Bool := fun _ ds => decide (uptoBulkAll ds ≤ 1048576)
def OpenSpec.upto (s : _root_.Go.ChangeSpec) : _root_.Go.OpenSpec := { _root_.Go.OpenSpec.ofChange s with cond := some uptoSmall }

/-- 'laws.FnValidOdds', WHERE WHAT IT READS IS OF BULK AT MOST 1048576: true; the input reads as it did. -/
def fnValidOddsUptoRow : OpenClaim := { program := "ytieibdgdfpeihaa", sum := "0409934f0ceee15e0217cb227d8ddd3e6e4cc5d3773a393f807e77c088b3993a", func := "loop.example/countedchances/laws.FnValidOdds", spec := "fnValidOdds", apart := false, narrowed := true }
def FnValidOddsUptoSaid : Prop := fnValidOddsUptoRow.holds Try.pinned (OpenSpec.upto fnValidOddsSpec)

/-- 'laws.FnTimesAll', WHERE WHAT IT READS IS OF BULK AT MOST 1048576: true; the input reads as it did. -/
def fnTimesAllUptoRow : OpenClaim := { program := "ytieibdgdfpeihaa", sum := "0409934f0ceee15e0217cb227d8ddd3e6e4cc5d3773a393f807e77c088b3993a", func := "loop.example/countedchances/laws.FnTimesAll", spec := "fnTimesAll", unfollowed := true, recurses := true, apart := false, narrowed := true }
def FnTimesAllUptoSaid : Prop := fnTimesAllUptoRow.holds Try.pinned (OpenSpec.upto fnTimesAllSpec)

/-- 'laws.FnStepDown', WHERE WHAT IT READS IS OF BULK AT MOST 1048576: true; the input reads as it did. -/
def fnStepDownUptoRow : OpenClaim := { program := "ytieibdgdfpeihaa", sum := "0409934f0ceee15e0217cb227d8ddd3e6e4cc5d3773a393f807e77c088b3993a", func := "loop.example/countedchances/laws.FnStepDown", spec := "fnStepDown", unfollowed := true, recurses := true, apart := false, narrowed := true }
def FnStepDownUptoSaid : Prop := fnStepDownUptoRow.holds Try.pinned (OpenSpec.upto fnStepDownSpec)

/-- 'laws.FnStepUp', WHERE WHAT IT READS IS OF BULK AT MOST 1048576: true; the input reads as it did. -/
def fnStepUpUptoRow : OpenClaim := { program := "ytieibdgdfpeihaa", sum := "0409934f0ceee15e0217cb227d8ddd3e6e4cc5d3773a393f807e77c088b3993a", func := "loop.example/countedchances/laws.FnStepUp", spec := "fnStepUp", unfollowed := true, recurses := true, apart := false, narrowed := true }
def FnStepUpUptoSaid : Prop := fnStepUpUptoRow.holds Try.pinned (OpenSpec.upto fnStepUpSpec)

/-- 'laws.FnFalseShare', WHERE WHAT IT READS IS OF BULK AT MOST 1048576: true; the input reads as it did. -/
def fnFalseShareUptoRow : OpenClaim := { program := "ytieibdgdfpeihaa", sum := "0409934f0ceee15e0217cb227d8ddd3e6e4cc5d3773a393f807e77c088b3993a", func := "loop.example/countedchances/laws.FnFalseShare", spec := "fnFalseShare", unfollowed := true, recurses := true, apart := false, narrowed := true }
def FnFalseShareUptoSaid : Prop := fnFalseShareUptoRow.holds Try.pinned (OpenSpec.upto fnFalseShareSpec)

/-- 'laws.FnClosedBy', WHERE WHAT IT READS IS OF BULK AT MOST 1048576: true; the input reads as it did. -/
def fnClosedByUptoRow : OpenClaim := { program := "ytieibdgdfpeihaa", sum := "0409934f0ceee15e0217cb227d8ddd3e6e4cc5d3773a393f807e77c088b3993a", func := "loop.example/countedchances/laws.FnClosedBy", spec := "fnClosedBy", recurses := true, apart := false, narrowed := true }
def FnClosedByUptoSaid : Prop := fnClosedByUptoRow.holds Try.pinned (OpenSpec.upto fnClosedBySpec)

/-- 'laws.FnFoundAt', WHERE WHAT IT READS IS OF BULK AT MOST 1048576: true; the input reads as it did. -/
def fnFoundAtUptoRow : OpenClaim := { program := "ytieibdgdfpeihaa", sum := "0409934f0ceee15e0217cb227d8ddd3e6e4cc5d3773a393f807e77c088b3993a", func := "loop.example/countedchances/laws.FnFoundAt", spec := "fnFoundAt", apart := false, narrowed := true }
def FnFoundAtUptoSaid : Prop := fnFoundAtUptoRow.holds Try.pinned (OpenSpec.upto fnFoundAtSpec)

/-- 'laws.FnExactValidOdds', WHERE WHAT IT READS IS OF BULK AT MOST 1048576: true; the input reads as it did. -/
def fnExactValidOddsUptoRow : OpenClaim := { program := "ytieibdgdfpeihaa", sum := "0409934f0ceee15e0217cb227d8ddd3e6e4cc5d3773a393f807e77c088b3993a", func := "loop.example/countedchances/laws.FnExactValidOdds", spec := "fnExactValidOdds", apart := false, narrowed := true }
def FnExactValidOddsUptoSaid : Prop := fnExactValidOddsUptoRow.holds Try.pinned (OpenSpec.upto fnExactValidOddsSpec)

/-- 'laws.FnExactTimesAll', WHERE WHAT IT READS IS OF BULK AT MOST 1048576: true; the input reads as it did. -/
def fnExactTimesAllUptoRow : OpenClaim := { program := "ytieibdgdfpeihaa", sum := "0409934f0ceee15e0217cb227d8ddd3e6e4cc5d3773a393f807e77c088b3993a", func := "loop.example/countedchances/laws.FnExactTimesAll", spec := "fnExactTimesAll", unfollowed := true, recurses := true, apart := false, narrowed := true }
def FnExactTimesAllUptoSaid : Prop := fnExactTimesAllUptoRow.holds Try.pinned (OpenSpec.upto fnExactTimesAllSpec)

/-- 'laws.FnExactStepDown', WHERE WHAT IT READS IS OF BULK AT MOST 1048576: true; the input reads as it did. -/
def fnExactStepDownUptoRow : OpenClaim := { program := "ytieibdgdfpeihaa", sum := "0409934f0ceee15e0217cb227d8ddd3e6e4cc5d3773a393f807e77c088b3993a", func := "loop.example/countedchances/laws.FnExactStepDown", spec := "fnExactStepDown", unfollowed := true, recurses := true, apart := false, narrowed := true }
def FnExactStepDownUptoSaid : Prop := fnExactStepDownUptoRow.holds Try.pinned (OpenSpec.upto fnExactStepDownSpec)

/-- 'laws.FnExactStepUp', WHERE WHAT IT READS IS OF BULK AT MOST 1048576: true; the input reads as it did. -/
def fnExactStepUpUptoRow : OpenClaim := { program := "ytieibdgdfpeihaa", sum := "0409934f0ceee15e0217cb227d8ddd3e6e4cc5d3773a393f807e77c088b3993a", func := "loop.example/countedchances/laws.FnExactStepUp", spec := "fnExactStepUp", unfollowed := true, recurses := true, apart := false, narrowed := true }
def FnExactStepUpUptoSaid : Prop := fnExactStepUpUptoRow.holds Try.pinned (OpenSpec.upto fnExactStepUpSpec)

/-- 'laws.FnExactFalseShare', WHERE WHAT IT READS IS OF BULK AT MOST 1048576: true; the input reads as it did. -/
def fnExactFalseShareUptoRow : OpenClaim := { program := "ytieibdgdfpeihaa", sum := "0409934f0ceee15e0217cb227d8ddd3e6e4cc5d3773a393f807e77c088b3993a", func := "loop.example/countedchances/laws.FnExactFalseShare", spec := "fnExactFalseShare", unfollowed := true, recurses := true, apart := false, narrowed := true }
def FnExactFalseShareUptoSaid : Prop := fnExactFalseShareUptoRow.holds Try.pinned (OpenSpec.upto fnExactFalseShareSpec)

/-- 'laws.FnExactClosedBy', WHERE WHAT IT READS IS OF BULK AT MOST 1048576: true; the input reads as it did. -/
def fnExactClosedByUptoRow : OpenClaim := { program := "ytieibdgdfpeihaa", sum := "0409934f0ceee15e0217cb227d8ddd3e6e4cc5d3773a393f807e77c088b3993a", func := "loop.example/countedchances/laws.FnExactClosedBy", spec := "fnExactClosedBy", recurses := true, apart := false, narrowed := true }
def FnExactClosedByUptoSaid : Prop := fnExactClosedByUptoRow.holds Try.pinned (OpenSpec.upto fnExactClosedBySpec)

/-- 'laws.FnExactFoundAt', WHERE WHAT IT READS IS OF BULK AT MOST 1048576: true; the input reads as it did. -/
def fnExactFoundAtUptoRow : OpenClaim := { program := "ytieibdgdfpeihaa", sum := "0409934f0ceee15e0217cb227d8ddd3e6e4cc5d3773a393f807e77c088b3993a", func := "loop.example/countedchances/laws.FnExactFoundAt", spec := "fnExactFoundAt", apart := false, narrowed := true }
def FnExactFoundAtUptoSaid : Prop := fnExactFoundAtUptoRow.holds Try.pinned (OpenSpec.upto fnExactFoundAtSpec)

end Rows
end Go.Proofs.Ytieibdgdfpeihaa
