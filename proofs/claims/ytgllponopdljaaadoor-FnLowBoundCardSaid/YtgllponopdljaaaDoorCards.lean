/-
  DERIVED. GIVEN WITH THE SEED: THE CARDS: each row of YtgllponopdljaaaDoorRows.lean that lists a variable, with what it lists TIED to the program's text (the seventh form; the later family's looks); each row that meets fmt, with fmt's text TOLD by the authors' own Lean function (tested against real Go, not proved from fmt's source: count such statements apart). THE CARD IS WHAT COUNTS. Prove the row's statement (the work); the ties are given (YtgllponopdljaaaDoorTie.lean); close each card by the builder's one call (the guide's Derived/Test/ToyasCard.lean, 'card_holds'). Laid BY PROGRAM, IN A SANDBOX (cutbox-door.mjs). By AI agents, Wed Nov 11 2026. No macro, syntax, notation, axiom, sorry.
-/
import Derived.Test.YtgllponopdljaaaDoorRows
import GoSem.ClaimSeven
namespace Go.Proofs.YtgllponopdljaaaDoor
namespace Rows

/-- THE TIED CARD OF 'laws.FnTailChance'. -/
def fnTailChanceCard : Claim7 := { stood := { row := fnTailChanceRow, standIns := [], harness := (true, "a2d8c1745627c905512b66feb8e943e220cf0838504171fc7ca49f1e07644606"), looks := false }, kinds := [], alts := [], laidByText := true, laidKinds := [.data], laidTests := true, laidLooks := .later }
def FnTailChanceCardSaid : Prop := Claim7.holds Tryd.pinned (.plain (OpenSpec.ofChange fnTailChanceSpec)) fnTailChanceCard

/-- THE TIED CARD OF 'laws.FnLowBound'. -/
def fnLowBoundCard : Claim7 := { stood := { row := fnLowBoundRow, standIns := [], harness := (true, "a2d8c1745627c905512b66feb8e943e220cf0838504171fc7ca49f1e07644606"), looks := false }, kinds := [], alts := [], laidByText := true, laidKinds := [.data], laidTests := true, laidLooks := .later }
def FnLowBoundCardSaid : Prop := Claim7.holds Tryd.pinned (.plain (OpenSpec.ofChange fnLowBoundSpec)) fnLowBoundCard

/-- THE TIED CARD OF 'laws.FnHighBound'. -/
def fnHighBoundCard : Claim7 := { stood := { row := fnHighBoundRow, standIns := [], harness := (true, "a2d8c1745627c905512b66feb8e943e220cf0838504171fc7ca49f1e07644606"), looks := false }, kinds := [], alts := [], laidByText := true, laidKinds := [.data], laidTests := true, laidLooks := .later }
def FnHighBoundCardSaid : Prop := Claim7.holds Tryd.pinned (.plain (OpenSpec.ofChange fnHighBoundSpec)) fnHighBoundCard

/-- THE TIED CARD OF 'laws.FnTwoSides'. -/
def fnTwoSidesCard : Claim7 := { stood := { row := fnTwoSidesRow, standIns := [], harness := (true, "a2d8c1745627c905512b66feb8e943e220cf0838504171fc7ca49f1e07644606"), looks := false }, kinds := [], alts := [], laidByText := true, laidKinds := [.data], laidTests := true, laidLooks := .later }
def FnTwoSidesCardSaid : Prop := Claim7.holds Tryd.pinned (.plain (OpenSpec.ofChange fnTwoSidesSpec)) fnTwoSidesCard

/-- THE TIED CARD OF 'laws.FnMiddlePlaces'. -/
def fnMiddlePlacesCard : Claim7 := { stood := { row := fnMiddlePlacesRow, standIns := [], harness := (true, "a2d8c1745627c905512b66feb8e943e220cf0838504171fc7ca49f1e07644606"), looks := false }, kinds := [], alts := [], laidByText := true, laidKinds := [.data], laidTests := true, laidLooks := .later }
def FnMiddlePlacesCardSaid : Prop := Claim7.holds Tryd.pinned (.plain (OpenSpec.ofChange fnMiddlePlacesSpec)) fnMiddlePlacesCard

/-- THE TIED CARD OF 'laws.FnExactTailChance'. -/
def fnExactTailChanceCard : Claim7 := { stood := { row := fnExactTailChanceRow, standIns := [], harness := (true, "a2d8c1745627c905512b66feb8e943e220cf0838504171fc7ca49f1e07644606"), looks := false }, kinds := [], alts := [], laidByText := true, laidKinds := [.data], laidTests := true, laidLooks := .later }
def FnExactTailChanceCardSaid : Prop := Claim7.holds Tryd.pinned (.plain (OpenSpec.ofChange fnExactTailChanceSpec)) fnExactTailChanceCard

/-- THE TIED CARD OF 'laws.FnExactLowBound'. -/
def fnExactLowBoundCard : Claim7 := { stood := { row := fnExactLowBoundRow, standIns := [], harness := (true, "a2d8c1745627c905512b66feb8e943e220cf0838504171fc7ca49f1e07644606"), looks := false }, kinds := [], alts := [], laidByText := true, laidKinds := [.data], laidTests := true, laidLooks := .later }
def FnExactLowBoundCardSaid : Prop := Claim7.holds Tryd.pinned (.plain (OpenSpec.ofChange fnExactLowBoundSpec)) fnExactLowBoundCard

/-- THE TIED CARD OF 'laws.FnExactHighBound'. -/
def fnExactHighBoundCard : Claim7 := { stood := { row := fnExactHighBoundRow, standIns := [], harness := (true, "a2d8c1745627c905512b66feb8e943e220cf0838504171fc7ca49f1e07644606"), looks := false }, kinds := [], alts := [], laidByText := true, laidKinds := [.data], laidTests := true, laidLooks := .later }
def FnExactHighBoundCardSaid : Prop := Claim7.holds Tryd.pinned (.plain (OpenSpec.ofChange fnExactHighBoundSpec)) fnExactHighBoundCard

/-- THE TIED CARD OF 'laws.FnExactTwoSides'. -/
def fnExactTwoSidesCard : Claim7 := { stood := { row := fnExactTwoSidesRow, standIns := [], harness := (true, "a2d8c1745627c905512b66feb8e943e220cf0838504171fc7ca49f1e07644606"), looks := false }, kinds := [], alts := [], laidByText := true, laidKinds := [.data], laidTests := true, laidLooks := .later }
def FnExactTwoSidesCardSaid : Prop := Claim7.holds Tryd.pinned (.plain (OpenSpec.ofChange fnExactTwoSidesSpec)) fnExactTwoSidesCard

/-- THE TIED CARD OF 'laws.FnExactMiddlePlaces'. -/
def fnExactMiddlePlacesCard : Claim7 := { stood := { row := fnExactMiddlePlacesRow, standIns := [], harness := (true, "a2d8c1745627c905512b66feb8e943e220cf0838504171fc7ca49f1e07644606"), looks := false }, kinds := [], alts := [], laidByText := true, laidKinds := [.data], laidTests := true, laidLooks := .later }
def FnExactMiddlePlacesCardSaid : Prop := Claim7.holds Tryd.pinned (.plain (OpenSpec.ofChange fnExactMiddlePlacesSpec)) fnExactMiddlePlacesCard

/-- THE SECOND FORM's CARD OF 'laws.FnTailChance'. -/
def fnTailChanceUptoCard : Claim7 := { stood := { row := fnTailChanceUptoRow, standIns := [], harness := (true, "a2d8c1745627c905512b66feb8e943e220cf0838504171fc7ca49f1e07644606"), looks := false }, kinds := [], alts := [], laidByText := true, laidKinds := [.data], laidTests := true, laidLooks := .later }
def FnTailChanceUptoCardSaid : Prop := Claim7.holds Tryd.pinned (.plain (OpenSpec.upto fnTailChanceSpec)) fnTailChanceUptoCard

/-- THE SECOND FORM's CARD OF 'laws.FnLowBound'. -/
def fnLowBoundUptoCard : Claim7 := { stood := { row := fnLowBoundUptoRow, standIns := [], harness := (true, "a2d8c1745627c905512b66feb8e943e220cf0838504171fc7ca49f1e07644606"), looks := false }, kinds := [], alts := [], laidByText := true, laidKinds := [.data], laidTests := true, laidLooks := .later }
def FnLowBoundUptoCardSaid : Prop := Claim7.holds Tryd.pinned (.plain (OpenSpec.upto fnLowBoundSpec)) fnLowBoundUptoCard

/-- THE SECOND FORM's CARD OF 'laws.FnHighBound'. -/
def fnHighBoundUptoCard : Claim7 := { stood := { row := fnHighBoundUptoRow, standIns := [], harness := (true, "a2d8c1745627c905512b66feb8e943e220cf0838504171fc7ca49f1e07644606"), looks := false }, kinds := [], alts := [], laidByText := true, laidKinds := [.data], laidTests := true, laidLooks := .later }
def FnHighBoundUptoCardSaid : Prop := Claim7.holds Tryd.pinned (.plain (OpenSpec.upto fnHighBoundSpec)) fnHighBoundUptoCard

/-- THE SECOND FORM's CARD OF 'laws.FnTwoSides'. -/
def fnTwoSidesUptoCard : Claim7 := { stood := { row := fnTwoSidesUptoRow, standIns := [], harness := (true, "a2d8c1745627c905512b66feb8e943e220cf0838504171fc7ca49f1e07644606"), looks := false }, kinds := [], alts := [], laidByText := true, laidKinds := [.data], laidTests := true, laidLooks := .later }
def FnTwoSidesUptoCardSaid : Prop := Claim7.holds Tryd.pinned (.plain (OpenSpec.upto fnTwoSidesSpec)) fnTwoSidesUptoCard

/-- THE SECOND FORM's CARD OF 'laws.FnMiddlePlaces'. -/
def fnMiddlePlacesUptoCard : Claim7 := { stood := { row := fnMiddlePlacesUptoRow, standIns := [], harness := (true, "a2d8c1745627c905512b66feb8e943e220cf0838504171fc7ca49f1e07644606"), looks := false }, kinds := [], alts := [], laidByText := true, laidKinds := [.data], laidTests := true, laidLooks := .later }
def FnMiddlePlacesUptoCardSaid : Prop := Claim7.holds Tryd.pinned (.plain (OpenSpec.upto fnMiddlePlacesSpec)) fnMiddlePlacesUptoCard

/-- THE SECOND FORM's CARD OF 'laws.FnExactTailChance'. -/
def fnExactTailChanceUptoCard : Claim7 := { stood := { row := fnExactTailChanceUptoRow, standIns := [], harness := (true, "a2d8c1745627c905512b66feb8e943e220cf0838504171fc7ca49f1e07644606"), looks := false }, kinds := [], alts := [], laidByText := true, laidKinds := [.data], laidTests := true, laidLooks := .later }
def FnExactTailChanceUptoCardSaid : Prop := Claim7.holds Tryd.pinned (.plain (OpenSpec.upto fnExactTailChanceSpec)) fnExactTailChanceUptoCard

/-- THE SECOND FORM's CARD OF 'laws.FnExactLowBound'. -/
def fnExactLowBoundUptoCard : Claim7 := { stood := { row := fnExactLowBoundUptoRow, standIns := [], harness := (true, "a2d8c1745627c905512b66feb8e943e220cf0838504171fc7ca49f1e07644606"), looks := false }, kinds := [], alts := [], laidByText := true, laidKinds := [.data], laidTests := true, laidLooks := .later }
def FnExactLowBoundUptoCardSaid : Prop := Claim7.holds Tryd.pinned (.plain (OpenSpec.upto fnExactLowBoundSpec)) fnExactLowBoundUptoCard

/-- THE SECOND FORM's CARD OF 'laws.FnExactHighBound'. -/
def fnExactHighBoundUptoCard : Claim7 := { stood := { row := fnExactHighBoundUptoRow, standIns := [], harness := (true, "a2d8c1745627c905512b66feb8e943e220cf0838504171fc7ca49f1e07644606"), looks := false }, kinds := [], alts := [], laidByText := true, laidKinds := [.data], laidTests := true, laidLooks := .later }
def FnExactHighBoundUptoCardSaid : Prop := Claim7.holds Tryd.pinned (.plain (OpenSpec.upto fnExactHighBoundSpec)) fnExactHighBoundUptoCard

/-- THE SECOND FORM's CARD OF 'laws.FnExactTwoSides'. -/
def fnExactTwoSidesUptoCard : Claim7 := { stood := { row := fnExactTwoSidesUptoRow, standIns := [], harness := (true, "a2d8c1745627c905512b66feb8e943e220cf0838504171fc7ca49f1e07644606"), looks := false }, kinds := [], alts := [], laidByText := true, laidKinds := [.data], laidTests := true, laidLooks := .later }
def FnExactTwoSidesUptoCardSaid : Prop := Claim7.holds Tryd.pinned (.plain (OpenSpec.upto fnExactTwoSidesSpec)) fnExactTwoSidesUptoCard

/-- THE SECOND FORM's CARD OF 'laws.FnExactMiddlePlaces'. -/
def fnExactMiddlePlacesUptoCard : Claim7 := { stood := { row := fnExactMiddlePlacesUptoRow, standIns := [], harness := (true, "a2d8c1745627c905512b66feb8e943e220cf0838504171fc7ca49f1e07644606"), looks := false }, kinds := [], alts := [], laidByText := true, laidKinds := [.data], laidTests := true, laidLooks := .later }
def FnExactMiddlePlacesUptoCardSaid : Prop := Claim7.holds Tryd.pinned (.plain (OpenSpec.upto fnExactMiddlePlacesSpec)) fnExactMiddlePlacesUptoCard
end Rows
end Go.Proofs.YtgllponopdljaaaDoor
