/-
  DERIVED. GIVEN WITH THE SEED: THE CARDS: each row of YtdhdkhnefnbdgaaGreatDoorRows.lean that lists a variable, with what it lists TIED to the program's text (the seventh form; the later family's looks); each row that meets fmt, with fmt's text TOLD by the authors' own Lean function (tested against real Go, not proved from fmt's source: count such statements apart). THE CARD IS WHAT COUNTS. Prove the row's statement (the work); the ties are given (YtdhdkhnefnbdgaaGreatDoorTie.lean); close each card by the builder's one call (the guide's Derived/Test/ToyasCard.lean, 'card_holds'). Laid BY PROGRAM, IN A SANDBOX (cutbox-door.mjs). By AI agents, Wed Nov 11 2026. No macro, syntax, notation, axiom, sorry.
-/
import Derived.Test.YtdhdkhnefnbdgaaGreatDoorRows
import GoSem.ClaimSeven
namespace Go.Proofs.YtdhdkhnefnbdgaaGreatDoor
namespace Rows

/-- THE TIED CARD OF 'laws.FnExactCanExtend'. -/
def fnExactCanExtendCard : Claim7 := { stood := { row := fnExactCanExtendRow, standIns := [], harness := (true, "6627feaf8fc6b345f58414b90d0670a2ad319123cc630b1f0126a37c29a81272"), looks := true }, kinds := [], alts := [], laidByText := true, laidKinds := [.handle], laidTests := true, laidLooks := .later }
def FnExactCanExtendCardSaid : Prop := Claim7.holds Tryz.pinned (.plain (OpenSpec.ofChange fnExactCanExtendSpec)) fnExactCanExtendCard

/-- THE TIED CARD OF 'laws.FnExactValidStore'. -/
def fnExactValidStoreCard : Claim7 := { stood := { row := fnExactValidStoreRow, standIns := [], harness := (true, "6627feaf8fc6b345f58414b90d0670a2ad319123cc630b1f0126a37c29a81272"), looks := true }, kinds := [], alts := [], laidByText := true, laidKinds := [.handle], laidTests := true, laidLooks := .later }
def FnExactValidStoreCardSaid : Prop := Claim7.holds Tryz.pinned (.plain (OpenSpec.ofChange fnExactValidStoreSpec)) fnExactValidStoreCard

/-- THE SECOND FORM's CARD OF 'laws.FnExactCanExtend'. -/
def fnExactCanExtendUptoCard : Claim7 := { stood := { row := fnExactCanExtendUptoRow, standIns := [], harness := (true, "6627feaf8fc6b345f58414b90d0670a2ad319123cc630b1f0126a37c29a81272"), looks := true }, kinds := [], alts := [], laidByText := true, laidKinds := [.handle], laidTests := true, laidLooks := .later }
def FnExactCanExtendUptoCardSaid : Prop := Claim7.holds Tryz.pinned (.plain (OpenSpec.upto fnExactCanExtendSpec)) fnExactCanExtendUptoCard

/-- THE SECOND FORM's CARD OF 'laws.FnExactValidStore'. -/
def fnExactValidStoreUptoCard : Claim7 := { stood := { row := fnExactValidStoreUptoRow, standIns := [], harness := (true, "6627feaf8fc6b345f58414b90d0670a2ad319123cc630b1f0126a37c29a81272"), looks := true }, kinds := [], alts := [], laidByText := true, laidKinds := [.handle], laidTests := true, laidLooks := .later }
def FnExactValidStoreUptoCardSaid : Prop := Claim7.holds Tryz.pinned (.plain (OpenSpec.upto fnExactValidStoreSpec)) fnExactValidStoreUptoCard
end Rows
end Go.Proofs.YtdhdkhnefnbdgaaGreatDoor
