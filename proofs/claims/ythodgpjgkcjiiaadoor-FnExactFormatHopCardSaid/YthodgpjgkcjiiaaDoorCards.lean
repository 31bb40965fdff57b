/-
  DERIVED. GIVEN WITH THE SEED: THE CARDS: each row of YthodgpjgkcjiiaaDoorRows.lean that lists a variable, with what it lists TIED to the program's text (the seventh form; the later family's looks); each row that meets fmt, with fmt's text TOLD by the authors' own Lean function (tested against real Go, not proved from fmt's source: count such statements apart). THE CARD IS WHAT COUNTS. Prove the row's statement (the work); the ties are given (YthodgpjgkcjiiaaDoorTie.lean); close each card by the builder's one call (the guide's Derived/Test/ToyasCard.lean, 'card_holds'). Laid BY PROGRAM, IN A SANDBOX (cutbox-door.mjs). By AI agents, Wed Nov 11 2026. No macro, syntax, notation, axiom, sorry.
-/
import Derived.Test.YthodgpjgkcjiiaaDoorRows
import GoSem.ClaimSeven
namespace Go.Proofs.YthodgpjgkcjiiaaDoor
namespace Rows

/-- THE TIED CARD OF 'laws.FnExactFormatAS'. -/
def fnExactFormatASCard : Claim7 := { stood := { row := fnExactFormatASRow, standIns := [], harness := (true, "5f0b31c8af5e2ddd844daa8fe3296aefec438f8105873110b609a02b2364bcb5"), looks := false }, kinds := [], alts := [], laidByText := true, laidKinds := [.data, .data, .data], laidTests := true, laidLooks := .later }
def FnExactFormatASCardSaid : Prop := Claim7.holds Tryd.pinned (.plain (OpenSpec.ofChange fnExactFormatASSpec)) fnExactFormatASCard

/-- THE TIED CARD OF 'laws.FnExactFormatInterface'. -/
def fnExactFormatInterfaceCard : Claim7 := { stood := { row := fnExactFormatInterfaceRow, standIns := [], harness := (true, "5f0b31c8af5e2ddd844daa8fe3296aefec438f8105873110b609a02b2364bcb5"), looks := false }, kinds := [], alts := [], laidByText := true, laidKinds := [.data, .data, .data], laidTests := true, laidLooks := .later }
def FnExactFormatInterfaceCardSaid : Prop := Claim7.holds Tryd.pinned (.plain (OpenSpec.ofChange fnExactFormatInterfaceSpec)) fnExactFormatInterfaceCard

/-- THE TIED CARD OF 'laws.FnExactFormatLink'. -/
def fnExactFormatLinkCard : Claim7 := { stood := { row := fnExactFormatLinkRow, standIns := [], harness := (true, "5f0b31c8af5e2ddd844daa8fe3296aefec438f8105873110b609a02b2364bcb5"), looks := false }, kinds := [], alts := [], laidByText := true, laidKinds := [.data, .data, .data], laidTests := true, laidLooks := .later }
def FnExactFormatLinkCardSaid : Prop := Claim7.holds Tryd.pinned (.plain (OpenSpec.ofChange fnExactFormatLinkSpec)) fnExactFormatLinkCard

/-- THE TIED CARD OF 'laws.FnExactFormatHop'. -/
def fnExactFormatHopCard : Claim7 := { stood := { row := fnExactFormatHopRow, standIns := [], harness := (true, "5f0b31c8af5e2ddd844daa8fe3296aefec438f8105873110b609a02b2364bcb5"), looks := false }, kinds := [], alts := [], laidByText := true, laidKinds := [.data, .data, .data], laidTests := true, laidLooks := .later }
def FnExactFormatHopCardSaid : Prop := Claim7.holds Tryd.pinned (.plain (OpenSpec.ofChange fnExactFormatHopSpec)) fnExactFormatHopCard

/-- THE SECOND FORM's CARD OF 'laws.FnExactFormatAS'. -/
def fnExactFormatASUptoCard : Claim7 := { stood := { row := fnExactFormatASUptoRow, standIns := [], harness := (true, "5f0b31c8af5e2ddd844daa8fe3296aefec438f8105873110b609a02b2364bcb5"), looks := false }, kinds := [], alts := [], laidByText := true, laidKinds := [.data, .data, .data], laidTests := true, laidLooks := .later }
def FnExactFormatASUptoCardSaid : Prop := Claim7.holds Tryd.pinned (.plain (OpenSpec.upto fnExactFormatASSpec)) fnExactFormatASUptoCard

/-- THE SECOND FORM's CARD OF 'laws.FnExactFormatInterface'. -/
def fnExactFormatInterfaceUptoCard : Claim7 := { stood := { row := fnExactFormatInterfaceUptoRow, standIns := [], harness := (true, "5f0b31c8af5e2ddd844daa8fe3296aefec438f8105873110b609a02b2364bcb5"), looks := false }, kinds := [], alts := [], laidByText := true, laidKinds := [.data, .data, .data], laidTests := true, laidLooks := .later }
def FnExactFormatInterfaceUptoCardSaid : Prop := Claim7.holds Tryd.pinned (.plain (OpenSpec.upto fnExactFormatInterfaceSpec)) fnExactFormatInterfaceUptoCard

/-- THE SECOND FORM's CARD OF 'laws.FnExactFormatLink'. -/
def fnExactFormatLinkUptoCard : Claim7 := { stood := { row := fnExactFormatLinkUptoRow, standIns := [], harness := (true, "5f0b31c8af5e2ddd844daa8fe3296aefec438f8105873110b609a02b2364bcb5"), looks := false }, kinds := [], alts := [], laidByText := true, laidKinds := [.data, .data, .data], laidTests := true, laidLooks := .later }
def FnExactFormatLinkUptoCardSaid : Prop := Claim7.holds Tryd.pinned (.plain (OpenSpec.upto fnExactFormatLinkSpec)) fnExactFormatLinkUptoCard

/-- THE SECOND FORM's CARD OF 'laws.FnExactFormatHop'. -/
def fnExactFormatHopUptoCard : Claim7 := { stood := { row := fnExactFormatHopUptoRow, standIns := [], harness := (true, "5f0b31c8af5e2ddd844daa8fe3296aefec438f8105873110b609a02b2364bcb5"), looks := false }, kinds := [], alts := [], laidByText := true, laidKinds := [.data, .data, .data], laidTests := true, laidLooks := .later }
def FnExactFormatHopUptoCardSaid : Prop := Claim7.holds Tryd.pinned (.plain (OpenSpec.upto fnExactFormatHopSpec)) fnExactFormatHopUptoCard
end Rows
end Go.Proofs.YthodgpjgkcjiiaaDoor
