/-
  DERIVED. GIVEN WITH THE SEED: THE CARDS: each row of YthpejolljkbenaaDoorRows.lean that lists a variable, with what it lists TIED to the program's text (the seventh form; the later family's looks); each row that meets fmt, with fmt's text TOLD by the authors' own Lean function (tested against real Go, not proved from fmt's source: count such statements apart). THE CARD IS WHAT COUNTS. Prove the row's statement (the work); the ties are given (YthpejolljkbenaaDoorTie.lean); close each card by the builder's one call (the guide's Derived/Test/ToyasCard.lean, 'card_holds'). Laid BY PROGRAM, IN A SANDBOX (cutbox-door.mjs). By AI agents, Wed Nov 11 2026. No macro, syntax, notation, axiom, sorry.
-/
import Derived.Test.YthpejolljkbenaaDoorRows
import GoSem.ClaimSeven
namespace Go.Proofs.YthpejolljkbenaaDoor
namespace Rows

/-- THE TIED CARD OF 'laws.FnExactFormatTopology'. -/
def fnExactFormatTopologyCard : Claim7 := { stood := { row := fnExactFormatTopologyRow, standIns := [], harness := (true, "182fe0be48ba1ed34150f96b4e51f945e7cc34ef04c7a8ee2354ba0299435dd9"), looks := true }, kinds := [], alts := [], laidByText := true, laidKinds := [.data, .data, .data], laidTests := true, laidLooks := .later }
def FnExactFormatTopologyCardSaid : Prop := Claim7.holds Tryd.pinned (.plain (OpenSpec.ofChange fnExactFormatTopologySpec)) fnExactFormatTopologyCard

/-- THE TIED CARD OF 'laws.FnExactFormatSegment'. -/
def fnExactFormatSegmentCard : Claim7 := { stood := { row := fnExactFormatSegmentRow, standIns := [], harness := (true, "182fe0be48ba1ed34150f96b4e51f945e7cc34ef04c7a8ee2354ba0299435dd9"), looks := true }, kinds := [], alts := [], laidByText := true, laidKinds := [.data, .data, .data], laidTests := true, laidLooks := .later }
def FnExactFormatSegmentCardSaid : Prop := Claim7.holds Tryd.pinned (.plain (OpenSpec.ofChange fnExactFormatSegmentSpec)) fnExactFormatSegmentCard

/-- THE TIED CARD OF 'laws.FnExactFormatPath'. -/
def fnExactFormatPathCard : Claim7 := { stood := { row := fnExactFormatPathRow, standIns := [], harness := (true, "182fe0be48ba1ed34150f96b4e51f945e7cc34ef04c7a8ee2354ba0299435dd9"), looks := true }, kinds := [], alts := [], laidByText := true, laidKinds := [.data, .data, .data], laidTests := true, laidLooks := .later }
def FnExactFormatPathCardSaid : Prop := Claim7.holds Tryd.pinned (.plain (OpenSpec.ofChange fnExactFormatPathSpec)) fnExactFormatPathCard

/-- THE TIED CARD OF 'laws.FnExactFormatPacket'. -/
def fnExactFormatPacketCard : Claim7 := { stood := { row := fnExactFormatPacketRow, standIns := [], harness := (true, "182fe0be48ba1ed34150f96b4e51f945e7cc34ef04c7a8ee2354ba0299435dd9"), looks := true }, kinds := [], alts := [], laidByText := true, laidKinds := [.data, .data, .data], laidTests := true, laidLooks := .later }
def FnExactFormatPacketCardSaid : Prop := Claim7.holds Tryd.pinned (.plain (OpenSpec.ofChange fnExactFormatPacketSpec)) fnExactFormatPacketCard

/-- THE SECOND FORM's CARD OF 'laws.FnExactFormatTopology'. -/
def fnExactFormatTopologyUptoCard : Claim7 := { stood := { row := fnExactFormatTopologyUptoRow, standIns := [], harness := (true, "182fe0be48ba1ed34150f96b4e51f945e7cc34ef04c7a8ee2354ba0299435dd9"), looks := true }, kinds := [], alts := [], laidByText := true, laidKinds := [.data, .data, .data], laidTests := true, laidLooks := .later }
def FnExactFormatTopologyUptoCardSaid : Prop := Claim7.holds Tryd.pinned (.plain (OpenSpec.upto fnExactFormatTopologySpec)) fnExactFormatTopologyUptoCard

/-- THE SECOND FORM's CARD OF 'laws.FnExactFormatSegment'. -/
def fnExactFormatSegmentUptoCard : Claim7 := { stood := { row := fnExactFormatSegmentUptoRow, standIns := [], harness := (true, "182fe0be48ba1ed34150f96b4e51f945e7cc34ef04c7a8ee2354ba0299435dd9"), looks := true }, kinds := [], alts := [], laidByText := true, laidKinds := [.data, .data, .data], laidTests := true, laidLooks := .later }
def FnExactFormatSegmentUptoCardSaid : Prop := Claim7.holds Tryd.pinned (.plain (OpenSpec.upto fnExactFormatSegmentSpec)) fnExactFormatSegmentUptoCard

/-- THE SECOND FORM's CARD OF 'laws.FnExactFormatPath'. -/
def fnExactFormatPathUptoCard : Claim7 := { stood := { row := fnExactFormatPathUptoRow, standIns := [], harness := (true, "182fe0be48ba1ed34150f96b4e51f945e7cc34ef04c7a8ee2354ba0299435dd9"), looks := true }, kinds := [], alts := [], laidByText := true, laidKinds := [.data, .data, .data], laidTests := true, laidLooks := .later }
def FnExactFormatPathUptoCardSaid : Prop := Claim7.holds Tryd.pinned (.plain (OpenSpec.upto fnExactFormatPathSpec)) fnExactFormatPathUptoCard

/-- THE SECOND FORM's CARD OF 'laws.FnExactFormatPacket'. -/
def fnExactFormatPacketUptoCard : Claim7 := { stood := { row := fnExactFormatPacketUptoRow, standIns := [], harness := (true, "182fe0be48ba1ed34150f96b4e51f945e7cc34ef04c7a8ee2354ba0299435dd9"), looks := true }, kinds := [], alts := [], laidByText := true, laidKinds := [.data, .data, .data], laidTests := true, laidLooks := .later }
def FnExactFormatPacketUptoCardSaid : Prop := Claim7.holds Tryd.pinned (.plain (OpenSpec.upto fnExactFormatPacketSpec)) fnExactFormatPacketUptoCard
end Rows
end Go.Proofs.YthpejolljkbenaaDoor
