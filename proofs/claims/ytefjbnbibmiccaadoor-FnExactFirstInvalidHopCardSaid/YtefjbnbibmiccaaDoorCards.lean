/-
  DERIVED. GIVEN WITH THE SEED: THE CARDS: each row of YtefjbnbibmiccaaDoorRows.lean that lists a variable, with what it lists TIED to the program's text (the seventh form; the later family's looks); each row that meets fmt, with fmt's text TOLD by the authors' own Lean function (tested against real Go, not proved from fmt's source: count such statements apart). THE CARD IS WHAT COUNTS. Prove the row's statement (the work); the ties are given (YtefjbnbibmiccaaDoorTie.lean); close each card by the builder's one call (the guide's Derived/Test/ToyasCard.lean, 'card_holds'). Laid BY PROGRAM, IN A SANDBOX (cutbox-door.mjs). By AI agents, Wed Nov 11 2026. No macro, syntax, notation, axiom, sorry.
-/
import Derived.Test.YtefjbnbibmiccaaDoorRows
import GoSem.ClaimSeven
namespace Go.Proofs.YtefjbnbibmiccaaDoor
namespace Rows

/-- THE TIED CARD OF 'laws.FnExactFirstInvalidHop'. -/
def fnExactFirstInvalidHopCard : Claim7 := { stood := { row := fnExactFirstInvalidHopRow, standIns := [], harness := (true, "77dafb1125704f57163d5278508b8aa0eb56ad1338a4478e02e58e30d31daf13"), looks := true }, kinds := [], alts := [], laidByText := true, laidKinds := [.handle], laidTests := true, laidLooks := .later }
def FnExactFirstInvalidHopCardSaid : Prop := Claim7.holds Tryd.pinned (.plain (OpenSpec.ofChange fnExactFirstInvalidHopSpec)) fnExactFirstInvalidHopCard

/-- THE SECOND FORM's CARD OF 'laws.FnExactFirstInvalidHop'. -/
def fnExactFirstInvalidHopUptoCard : Claim7 := { stood := { row := fnExactFirstInvalidHopUptoRow, standIns := [], harness := (true, "77dafb1125704f57163d5278508b8aa0eb56ad1338a4478e02e58e30d31daf13"), looks := true }, kinds := [], alts := [], laidByText := true, laidKinds := [.handle], laidTests := true, laidLooks := .later }
def FnExactFirstInvalidHopUptoCardSaid : Prop := Claim7.holds Tryd.pinned (.plain (OpenSpec.upto fnExactFirstInvalidHopSpec)) fnExactFirstInvalidHopUptoCard
end Rows
end Go.Proofs.YtefjbnbibmiccaaDoor
