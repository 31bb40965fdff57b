/-
  DERIVED. GIVEN WITH THE SEED: THE CARDS: each row of YtefjbnbibmiccaaGreatDoorRows.lean that lists a variable, with what it lists TIED to the program's text (the seventh form; the later family's looks); each row that meets fmt, with fmt's text TOLD by the authors' own Lean function (tested against real Go, not proved from fmt's source: count such statements apart). THE CARD IS WHAT COUNTS. Prove the row's statement (the work); the ties are given (YtefjbnbibmiccaaGreatDoorTie.lean); close each card by the builder's one call (the guide's Derived/Test/ToyasCard.lean, 'card_holds'). Laid BY PROGRAM, IN A SANDBOX (cutbox-door.mjs). By AI agents, Wed Nov 11 2026. No macro, syntax, notation, axiom, sorry.
-/
import Derived.Test.YtefjbnbibmiccaaGreatDoorRows
import GoSem.ClaimSeven
namespace Go.Proofs.YtefjbnbibmiccaaGreatDoor
namespace Rows

/-- THE TIED CARD OF 'laws.FnExactValidSegment'. -/
def fnExactValidSegmentCard : Claim7 := { stood := { row := fnExactValidSegmentRow, standIns := [], harness := (true, "16564fbf3ad5b4d94875d1595bb4b4cdc0e0eb4cd9aa791d7f219a1753deae48"), looks := true }, kinds := [], alts := [], laidByText := true, laidKinds := [.handle], laidTests := true, laidLooks := .later }
def FnExactValidSegmentCardSaid : Prop := Claim7.holds Tryz.pinned (.plain (OpenSpec.ofChange fnExactValidSegmentSpec)) fnExactValidSegmentCard

/-- THE TIED CARD OF 'laws.FnExactSegmentUsable'. -/
def fnExactSegmentUsableCard : Claim7 := { stood := { row := fnExactSegmentUsableRow, standIns := [], harness := (true, "16564fbf3ad5b4d94875d1595bb4b4cdc0e0eb4cd9aa791d7f219a1753deae48"), looks := true }, kinds := [], alts := [], laidByText := true, laidKinds := [.handle], laidTests := true, laidLooks := .later }
def FnExactSegmentUsableCardSaid : Prop := Claim7.holds Tryz.pinned (.plain (OpenSpec.ofChange fnExactSegmentUsableSpec)) fnExactSegmentUsableCard

/-- THE TIED CARD OF 'laws.FnExactCanExtend'. -/
def fnExactCanExtendCard : Claim7 := { stood := { row := fnExactCanExtendRow, standIns := [], harness := (true, "16564fbf3ad5b4d94875d1595bb4b4cdc0e0eb4cd9aa791d7f219a1753deae48"), looks := true }, kinds := [], alts := [], laidByText := true, laidKinds := [.handle], laidTests := true, laidLooks := .later }
def FnExactCanExtendCardSaid : Prop := Claim7.holds Tryz.pinned (.plain (OpenSpec.ofChange fnExactCanExtendSpec)) fnExactCanExtendCard

/-- THE SECOND FORM's CARD OF 'laws.FnExactValidSegment'. -/
def fnExactValidSegmentUptoCard : Claim7 := { stood := { row := fnExactValidSegmentUptoRow, standIns := [], harness := (true, "16564fbf3ad5b4d94875d1595bb4b4cdc0e0eb4cd9aa791d7f219a1753deae48"), looks := true }, kinds := [], alts := [], laidByText := true, laidKinds := [.handle], laidTests := true, laidLooks := .later }
def FnExactValidSegmentUptoCardSaid : Prop := Claim7.holds Tryz.pinned (.plain (OpenSpec.upto fnExactValidSegmentSpec)) fnExactValidSegmentUptoCard

/-- THE SECOND FORM's CARD OF 'laws.FnExactSegmentUsable'. -/
def fnExactSegmentUsableUptoCard : Claim7 := { stood := { row := fnExactSegmentUsableUptoRow, standIns := [], harness := (true, "16564fbf3ad5b4d94875d1595bb4b4cdc0e0eb4cd9aa791d7f219a1753deae48"), looks := true }, kinds := [], alts := [], laidByText := true, laidKinds := [.handle], laidTests := true, laidLooks := .later }
def FnExactSegmentUsableUptoCardSaid : Prop := Claim7.holds Tryz.pinned (.plain (OpenSpec.upto fnExactSegmentUsableSpec)) fnExactSegmentUsableUptoCard

/-- THE SECOND FORM's CARD OF 'laws.FnExactCanExtend'. -/
def fnExactCanExtendUptoCard : Claim7 := { stood := { row := fnExactCanExtendUptoRow, standIns := [], harness := (true, "16564fbf3ad5b4d94875d1595bb4b4cdc0e0eb4cd9aa791d7f219a1753deae48"), looks := true }, kinds := [], alts := [], laidByText := true, laidKinds := [.handle], laidTests := true, laidLooks := .later }
def FnExactCanExtendUptoCardSaid : Prop := Claim7.holds Tryz.pinned (.plain (OpenSpec.upto fnExactCanExtendSpec)) fnExactCanExtendUptoCard
end Rows
end Go.Proofs.YtefjbnbibmiccaaGreatDoor
