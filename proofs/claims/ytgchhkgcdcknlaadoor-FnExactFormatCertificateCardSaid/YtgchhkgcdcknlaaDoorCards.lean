/-
  DERIVED. GIVEN WITH THE SEED: THE CARDS: each row of YtgchhkgcdcknlaaDoorRows.lean that lists a variable, with what it lists TIED to the program's text (the seventh form; the later family's looks); each row that meets fmt, with fmt's text TOLD by the authors' own Lean function (tested against real Go, not proved from fmt's source: count such statements apart). THE CARD IS WHAT COUNTS. Prove the row's statement (the work); the ties are given (YtgchhkgcdcknlaaDoorTie.lean); close each card by the builder's one call (the guide's Derived/Test/ToyasCard.lean, 'card_holds'). Laid BY PROGRAM, IN A SANDBOX (cutbox-door.mjs). By AI agents, Wed Nov 11 2026. No macro, syntax, notation, axiom, sorry.
-/
import Derived.Test.YtgchhkgcdcknlaaDoorRows
import GoSem.ClaimSeven
namespace Go.Proofs.YtgchhkgcdcknlaaDoor
namespace Rows

/-- THE TIED CARD OF 'laws.FnExactFormatRoot'. -/
def fnExactFormatRootCard : Claim7 := { stood := { row := fnExactFormatRootRow, standIns := [], harness := (true, "da2fff7cee35f57d37d8b701bbf795545c8770df5e16a357c6571f273b4d1901"), looks := false }, kinds := [], alts := [], laidByText := true, laidKinds := [.data, .data, .data], laidTests := true, laidLooks := .later }
def FnExactFormatRootCardSaid : Prop := Claim7.holds Tryd.pinned (.plain (OpenSpec.ofChange fnExactFormatRootSpec)) fnExactFormatRootCard

/-- THE TIED CARD OF 'laws.FnExactFormatCertificate'. -/
def fnExactFormatCertificateCard : Claim7 := { stood := { row := fnExactFormatCertificateRow, standIns := [], harness := (true, "da2fff7cee35f57d37d8b701bbf795545c8770df5e16a357c6571f273b4d1901"), looks := false }, kinds := [], alts := [], laidByText := true, laidKinds := [.data, .data, .data], laidTests := true, laidLooks := .later }
def FnExactFormatCertificateCardSaid : Prop := Claim7.holds Tryd.pinned (.plain (OpenSpec.ofChange fnExactFormatCertificateSpec)) fnExactFormatCertificateCard

/-- THE TIED CARD OF 'laws.FnExactFormatTrace'. -/
def fnExactFormatTraceCard : Claim7 := { stood := { row := fnExactFormatTraceRow, standIns := [], harness := (true, "da2fff7cee35f57d37d8b701bbf795545c8770df5e16a357c6571f273b4d1901"), looks := false }, kinds := [], alts := [], laidByText := true, laidKinds := [.data, .data, .data], laidTests := true, laidLooks := .later }
def FnExactFormatTraceCardSaid : Prop := Claim7.holds Tryd.pinned (.plain (OpenSpec.ofChange fnExactFormatTraceSpec)) fnExactFormatTraceCard

/-- THE SECOND FORM's CARD OF 'laws.FnExactFormatRoot'. -/
def fnExactFormatRootUptoCard : Claim7 := { stood := { row := fnExactFormatRootUptoRow, standIns := [], harness := (true, "da2fff7cee35f57d37d8b701bbf795545c8770df5e16a357c6571f273b4d1901"), looks := false }, kinds := [], alts := [], laidByText := true, laidKinds := [.data, .data, .data], laidTests := true, laidLooks := .later }
def FnExactFormatRootUptoCardSaid : Prop := Claim7.holds Tryd.pinned (.plain (OpenSpec.upto fnExactFormatRootSpec)) fnExactFormatRootUptoCard

/-- THE SECOND FORM's CARD OF 'laws.FnExactFormatCertificate'. -/
def fnExactFormatCertificateUptoCard : Claim7 := { stood := { row := fnExactFormatCertificateUptoRow, standIns := [], harness := (true, "da2fff7cee35f57d37d8b701bbf795545c8770df5e16a357c6571f273b4d1901"), looks := false }, kinds := [], alts := [], laidByText := true, laidKinds := [.data, .data, .data], laidTests := true, laidLooks := .later }
def FnExactFormatCertificateUptoCardSaid : Prop := Claim7.holds Tryd.pinned (.plain (OpenSpec.upto fnExactFormatCertificateSpec)) fnExactFormatCertificateUptoCard

/-- THE SECOND FORM's CARD OF 'laws.FnExactFormatTrace'. -/
def fnExactFormatTraceUptoCard : Claim7 := { stood := { row := fnExactFormatTraceUptoRow, standIns := [], harness := (true, "da2fff7cee35f57d37d8b701bbf795545c8770df5e16a357c6571f273b4d1901"), looks := false }, kinds := [], alts := [], laidByText := true, laidKinds := [.data, .data, .data], laidTests := true, laidLooks := .later }
def FnExactFormatTraceUptoCardSaid : Prop := Claim7.holds Tryd.pinned (.plain (OpenSpec.upto fnExactFormatTraceSpec)) fnExactFormatTraceUptoCard
end Rows
end Go.Proofs.YtgchhkgcdcknlaaDoor
