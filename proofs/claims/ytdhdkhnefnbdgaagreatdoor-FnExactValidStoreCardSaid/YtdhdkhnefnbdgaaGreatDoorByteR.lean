
/- Rows of bytes in the notions of rows of structs: the laws' copy, equality, marks and check; what a call hands back. -/
import Derived.Test.YtdhdkhnefnbdgaaGreatDoorByteMark
import Derived.Test.YtdhdkhnefnbdgaaGreatDoorIntR
import Derived.Test.YtdhdkhnefnbdgaaGreatDoorAppR
import Derived.Test.YtdhdkhnefnbdgaaGreatDoorBytesOps
namespace Go.Proofs.YtdhdkhnefnbdgaaGreatDoor
open Go.ChangeShapes Go.WideShapes Go.ChangeAt Go.RowKit
set_option linter.unusedVariables false
abbrev TByte := Int
def TByte.fits (x : TByte) : Prop := (Lit.int .u8 x).wf = true
abbrev HasByte (w : World) (B : Nat) (a : Option Addr) (n : Nat) (zs : List Int) : Prop := HasR 1 (icell .u8) w B a n zs
abbrev OwnByte (w : World) (lo hi : Nat) (a : Option Addr) (n : Nat) (zs : List Int) : Prop := OwnR 1 (icell .u8) w lo hi a n zs
theorem OwnR.intI {k : IntKind} {w : World} {lo hi n : Nat} {a : Option Addr} {zs : List Int} (h : OwnR 1 (icell k) w lo hi a n zs) : Own k w lo a n zs :=
  ⟨h.1, fun hn => by
    obtain ⟨b, off, e, hl, hb, hc⟩ := h.2 hn
    have hlt := World.block_lt_of_cell? w _ (hc 0 (by omega)).1
    refine ⟨b, off, e, hl, hlt, fun i hi => ?_⟩
    rw [← flat_int]
    exact hc i (by omega)⟩
theorem OutB.rows {w w' : World} {R : List Int} {e : Ending} (h : OutB w R e w') : OutRows 1 (icell .u8) w R e w' := by
  obtain ⟨v, rfl, ho, hb⟩ := h
  obtain ⟨A, c, rfl, hc, hn⟩ := ownsRow_sliceR2 ho
  exact ⟨A, _, c, rfl, ⟨hc, hn⟩, (ownsRow_own ho).toR (Nat.le_refl _), Mk.of_below hb⟩
end Go.Proofs.YtdhdkhnefnbdgaaGreatDoor
