
/- Reservation: rows of them: the laws' copy, equality, marks and check. -/
import Derived.Test.YtoicmmandniagaaRows
import Derived.Test.YtoicmmandniagaaRow
import Derived.Test.YtoicmmandniagaaInfo
import Derived.Handy
import Derived.OwnWalk
import Derived.Deep.QuietTactic
import Derived.BigQuiet
import Derived.Deep.RegionWith
import Derived.RegionTactic
namespace Go.Proofs.Ytoicmmandniagaa
open Go.ChangeShapes Go.WideShapes Go.ChangeAt Go.RowKit
set_option linter.unusedVariables false
structure TReservation where (id : Int) (nd : Int) (ifc : Int) (rate : Int) (til : Int)
instance : Inhabited TReservation := ⟨⟨0, 0, 0, 0, 0⟩⟩
def TReservation.cell (x : TReservation) : Nat → Value
  | 0 => .int .i64 x.id
  | 1 => .int .i64 x.nd
  | 2 => .int .i64 x.ifc
  | 3 => .int .i64 x.rate
  | _ => .int .i64 x.til
def TReservation.fits (x : TReservation) : Prop := (Lit.int .i64 x.id).wf = true ∧ (Lit.int .i64 x.nd).wf = true ∧ (Lit.int .i64 x.ifc).wf = true ∧ (Lit.int .i64 x.rate).wf = true ∧ (Lit.int .i64 x.til).wf = true
abbrev HasReservation (w : World) (B : Nat) (a : Option Addr) (n : Nat) (zs : List TReservation) : Prop := HasR 5 TReservation.cell w B a n zs
abbrev OwnReservation (w : World) (lo hi : Nat) (a : Option Addr) (n : Nat) (zs : List TReservation) : Prop := OwnR 5 TReservation.cell w lo hi a n zs
theorem HasReservation.at (w : World) (B n k : Nat) (a : Option Addr) (zs : List TReservation) (h : HasReservation w B a n zs) (hk : k < n) : ∃ b off x, a = some ⟨b, off, none⟩ ∧ b < B ∧ Hid (x = zs.getD k default) ∧ w.cell? ⟨b, off + k * 5, none⟩ = some (.int .i64 x.id) ∧ w.cell? ⟨b, off + k * 5 + 1, none⟩ = some (.int .i64 x.nd) ∧ w.cell? ⟨b, off + k * 5 + 2, none⟩ = some (.int .i64 x.ifc) ∧ w.cell? ⟨b, off + k * 5 + 3, none⟩ = some (.int .i64 x.rate) ∧ w.cell? ⟨b, off + k * 5 + 4, none⟩ = some (.int .i64 x.til) := by
  obtain ⟨b, off, x, e, hb, hx, hc⟩ := h.at_ hk
  exact ⟨b, off, x, e, hb, hx, hc 0 (by omega), hc 1 (by omega), hc 2 (by omega), hc 3 (by omega), hc 4 (by omega)⟩
end Go.Proofs.Ytoicmmandniagaa
