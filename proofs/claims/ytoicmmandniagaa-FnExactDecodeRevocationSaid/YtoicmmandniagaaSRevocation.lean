
/- Revocation: rows of them: the laws' copy, equality, marks and check. -/
import Derived.Test.YtoicmmandniagaaRows
import Derived.Test.YtoicmmandniagaaRow
import Derived.Test.YtoicmmandniagaaInfo
import Derived.Handy
import Derived.OwnWalk
import Derived.Deep.QuietTactic
import Derived.BigQuiet
import Derived.Deep.RegionWith
import Derived.RegionTactic
namespace Go.Proofs.Ytoicmmandniagaa
open Go.ChangeShapes Go.WideShapes Go.ChangeAt Go.RowKit
set_option linter.unusedVariables false
structure TRevocation where (nd : Int) (ifc : Int) (til : Int)
instance : Inhabited TRevocation := ⟨⟨0, 0, 0⟩⟩
def TRevocation.cell (x : TRevocation) : Nat → Value
  | 0 => .int .i64 x.nd
  | 1 => .int .i64 x.ifc
  | _ => .int .i64 x.til
def TRevocation.fits (x : TRevocation) : Prop := (Lit.int .i64 x.nd).wf = true ∧ (Lit.int .i64 x.ifc).wf = true ∧ (Lit.int .i64 x.til).wf = true
abbrev HasRevocation (w : World) (B : Nat) (a : Option Addr) (n : Nat) (zs : List TRevocation) : Prop := HasR 3 TRevocation.cell w B a n zs
abbrev OwnRevocation (w : World) (lo hi : Nat) (a : Option Addr) (n : Nat) (zs : List TRevocation) : Prop := OwnR 3 TRevocation.cell w lo hi a n zs
theorem HasRevocation.at (w : World) (B n k : Nat) (a : Option Addr) (zs : List TRevocation) (h : HasRevocation w B a n zs) (hk : k < n) : ∃ b off x, a = some ⟨b, off, none⟩ ∧ b < B ∧ Hid (x = zs.getD k default) ∧ w.cell? ⟨b, off + k * 3, none⟩ = some (.int .i64 x.nd) ∧ w.cell? ⟨b, off + k * 3 + 1, none⟩ = some (.int .i64 x.ifc) ∧ w.cell? ⟨b, off + k * 3 + 2, none⟩ = some (.int .i64 x.til) := by
  obtain ⟨b, off, x, e, hb, hx, hc⟩ := h.at_ hk
  exact ⟨b, off, x, e, hb, hx, hc 0 (by omega), hc 1 (by omega), hc 2 (by omega)⟩
theorem infoRRevocation : (Try.prog.info? 50).map (fun i => (i.zero, i.size, i.bytes)) = some (some (.agg #[.int .i64 0, .int .i64 0, .int .i64 0]), 3, 24) := by kernel_rfl

set_option maxRecDepth 100000 in
set_option maxHeartbeats 800000 in
theorem eqRevocationV (x : TRevocation) (w : World) : Calls Try.prog 19 #[.agg #[.int .i64 x.nd, .int .i64 x.ifc, .int .i64 x.til], .agg #[.int .i64 x.nd, .int .i64 x.ifc, .int .i64 x.til]] w fun e w' => e = .returned (.bool true) ∧ Mk0 w w' := by
  go_enter Try.func19, Try.ntmps19
  go_wp2
  go_ret
  exact ⟨rfl, Mk.of_below (by go_grown)⟩

end Go.Proofs.Ytoicmmandniagaa
