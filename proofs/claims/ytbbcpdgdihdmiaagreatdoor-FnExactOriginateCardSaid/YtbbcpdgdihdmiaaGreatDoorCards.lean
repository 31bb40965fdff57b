/-
  DERIVED. GIVEN WITH THE SEED: THE CARDS: each row of YtbbcpdgdihdmiaaGreatDoorRows.lean that lists a variable, with what it lists TIED to the program's text (the seventh form; the later family's looks); each row that meets fmt, with fmt's text TOLD by the authors' own Lean function (tested against real Go, not proved from fmt's source: count such statements apart). THE CARD IS WHAT COUNTS. Prove the row's statement (the work); the ties are given (YtbbcpdgdihdmiaaGreatDoorTie.lean); close each card by the builder's one call (the guide's Derived/Test/ToyasCard.lean, 'card_holds'). Laid BY PROGRAM, IN A SANDBOX (cutbox-door.mjs). By AI agents, Wed Nov 11 2026. No macro, syntax, notation, axiom, sorry.
-/
import Derived.Test.YtbbcpdgdihdmiaaGreatDoorRows
import GoSem.ClaimSeven
namespace Go.Proofs.YtbbcpdgdihdmiaaGreatDoor
namespace Rows

/-- THE TIED CARD OF 'laws.FnExactOriginate'. -/
def fnExactOriginateCard : Claim7 := { stood := { row := fnExactOriginateRow, standIns := [], harness := (true, "08df8c30b0315c97757bca851263943c7aab16c4cbd50468347ad254a0a7ebd2"), looks := true }, kinds := [], alts := [], laidByText := true, laidKinds := [.handle], laidTests := true, laidLooks := .later }
def FnExactOriginateCardSaid : Prop := Claim7.holds Tryz.pinned (.plain (OpenSpec.ofChange fnExactOriginateSpec)) fnExactOriginateCard

/-- THE TIED CARD OF 'laws.FnExactExtend'. -/
def fnExactExtendCard : Claim7 := { stood := { row := fnExactExtendRow, standIns := [], harness := (true, "08df8c30b0315c97757bca851263943c7aab16c4cbd50468347ad254a0a7ebd2"), looks := true }, kinds := [], alts := [], laidByText := true, laidKinds := [.handle], laidTests := true, laidLooks := .later }
def FnExactExtendCardSaid : Prop := Claim7.holds Tryz.pinned (.plain (OpenSpec.ofChange fnExactExtendSpec)) fnExactExtendCard

/-- THE TIED CARD OF 'laws.FnExactTerminate'. -/
def fnExactTerminateCard : Claim7 := { stood := { row := fnExactTerminateRow, standIns := [], harness := (true, "08df8c30b0315c97757bca851263943c7aab16c4cbd50468347ad254a0a7ebd2"), looks := true }, kinds := [], alts := [], laidByText := true, laidKinds := [.handle], laidTests := true, laidLooks := .later }
def FnExactTerminateCardSaid : Prop := Claim7.holds Tryz.pinned (.plain (OpenSpec.ofChange fnExactTerminateSpec)) fnExactTerminateCard

/-- THE TIED CARD OF 'laws.FnExactEgressCandidates'. -/
def fnExactEgressCandidatesCard : Claim7 := { stood := { row := fnExactEgressCandidatesRow, standIns := [], harness := (true, "08df8c30b0315c97757bca851263943c7aab16c4cbd50468347ad254a0a7ebd2"), looks := true }, kinds := [], alts := [], laidByText := true, laidKinds := [.handle], laidTests := true, laidLooks := .later }
def FnExactEgressCandidatesCardSaid : Prop := Claim7.holds Tryz.pinned (.plain (OpenSpec.ofChange fnExactEgressCandidatesSpec)) fnExactEgressCandidatesCard

/-- THE TIED CARD OF 'laws.FnExactOriginInterfaces'. -/
def fnExactOriginInterfacesCard : Claim7 := { stood := { row := fnExactOriginInterfacesRow, standIns := [], harness := (true, "08df8c30b0315c97757bca851263943c7aab16c4cbd50468347ad254a0a7ebd2"), looks := true }, kinds := [], alts := [], laidByText := true, laidKinds := [.handle], laidTests := true, laidLooks := .later }
def FnExactOriginInterfacesCardSaid : Prop := Claim7.holds Tryz.pinned (.plain (OpenSpec.ofChange fnExactOriginInterfacesSpec)) fnExactOriginInterfacesCard

/-- THE SECOND FORM's CARD OF 'laws.FnExactOriginate'. -/
def fnExactOriginateUptoCard : Claim7 := { stood := { row := fnExactOriginateUptoRow, standIns := [], harness := (true, "08df8c30b0315c97757bca851263943c7aab16c4cbd50468347ad254a0a7ebd2"), looks := true }, kinds := [], alts := [], laidByText := true, laidKinds := [.handle], laidTests := true, laidLooks := .later }
def FnExactOriginateUptoCardSaid : Prop := Claim7.holds Tryz.pinned (.plain (OpenSpec.upto fnExactOriginateSpec)) fnExactOriginateUptoCard

/-- THE SECOND FORM's CARD OF 'laws.FnExactExtend'. -/
def fnExactExtendUptoCard : Claim7 := { stood := { row := fnExactExtendUptoRow, standIns := [], harness := (true, "08df8c30b0315c97757bca851263943c7aab16c4cbd50468347ad254a0a7ebd2"), looks := true }, kinds := [], alts := [], laidByText := true, laidKinds := [.handle], laidTests := true, laidLooks := .later }
def FnExactExtendUptoCardSaid : Prop := Claim7.holds Tryz.pinned (.plain (OpenSpec.upto fnExactExtendSpec)) fnExactExtendUptoCard

/-- THE SECOND FORM's CARD OF 'laws.FnExactTerminate'. -/
def fnExactTerminateUptoCard : Claim7 := { stood := { row := fnExactTerminateUptoRow, standIns := [], harness := (true, "08df8c30b0315c97757bca851263943c7aab16c4cbd50468347ad254a0a7ebd2"), looks := true }, kinds := [], alts := [], laidByText := true, laidKinds := [.handle], laidTests := true, laidLooks := .later }
def FnExactTerminateUptoCardSaid : Prop := Claim7.holds Tryz.pinned (.plain (OpenSpec.upto fnExactTerminateSpec)) fnExactTerminateUptoCard

/-- THE SECOND FORM's CARD OF 'laws.FnExactEgressCandidates'. -/
def fnExactEgressCandidatesUptoCard : Claim7 := { stood := { row := fnExactEgressCandidatesUptoRow, standIns := [], harness := (true, "08df8c30b0315c97757bca851263943c7aab16c4cbd50468347ad254a0a7ebd2"), looks := true }, kinds := [], alts := [], laidByText := true, laidKinds := [.handle], laidTests := true, laidLooks := .later }
def FnExactEgressCandidatesUptoCardSaid : Prop := Claim7.holds Tryz.pinned (.plain (OpenSpec.upto fnExactEgressCandidatesSpec)) fnExactEgressCandidatesUptoCard

/-- THE SECOND FORM's CARD OF 'laws.FnExactOriginInterfaces'. -/
def fnExactOriginInterfacesUptoCard : Claim7 := { stood := { row := fnExactOriginInterfacesUptoRow, standIns := [], harness := (true, "08df8c30b0315c97757bca851263943c7aab16c4cbd50468347ad254a0a7ebd2"), looks := true }, kinds := [], alts := [], laidByText := true, laidKinds := [.handle], laidTests := true, laidLooks := .later }
def FnExactOriginInterfacesUptoCardSaid : Prop := Claim7.holds Tryz.pinned (.plain (OpenSpec.upto fnExactOriginInterfacesSpec)) fnExactOriginInterfacesUptoCard
end Rows
end Go.Proofs.YtbbcpdgdihdmiaaGreatDoor
