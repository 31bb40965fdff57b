
/- Hop: rows of them: the laws' copy, equality, marks and check. -/
import Derived.Test.YtoicmmandniagaaRows
import Derived.Test.YtoicmmandniagaaRow
import Derived.Test.YtoicmmandniagaaInfo
import Derived.Handy
import Derived.OwnWalk
import Derived.Deep.QuietTactic
import Derived.BigQuiet
import Derived.Deep.RegionWith
import Derived.RegionTactic
namespace Go.Proofs.Ytoicmmandniagaa
open Go.ChangeShapes Go.WideShapes Go.ChangeAt Go.RowKit
set_option linter.unusedVariables false
structure THop where (nd : Int) (ing : Int) (eg : Int) (exp : Int) (mac : Int)
instance : Inhabited THop := ⟨⟨0, 0, 0, 0, 0⟩⟩
def THop.cell (x : THop) : Nat → Value
  | 0 => .int .i64 x.nd
  | 1 => .int .i64 x.ing
  | 2 => .int .i64 x.eg
  | 3 => .int .i64 x.exp
  | _ => .int .i64 x.mac
def THop.fits (x : THop) : Prop := (Lit.int .i64 x.nd).wf = true ∧ (Lit.int .i64 x.ing).wf = true ∧ (Lit.int .i64 x.eg).wf = true ∧ (Lit.int .i64 x.exp).wf = true ∧ (Lit.int .i64 x.mac).wf = true
abbrev HasHop (w : World) (B : Nat) (a : Option Addr) (n : Nat) (zs : List THop) : Prop := HasR 5 THop.cell w B a n zs
abbrev OwnHop (w : World) (lo hi : Nat) (a : Option Addr) (n : Nat) (zs : List THop) : Prop := OwnR 5 THop.cell w lo hi a n zs
theorem HasHop.at (w : World) (B n k : Nat) (a : Option Addr) (zs : List THop) (h : HasHop w B a n zs) (hk : k < n) : ∃ b off x, a = some ⟨b, off, none⟩ ∧ b < B ∧ Hid (x = zs.getD k default) ∧ w.cell? ⟨b, off + k * 5, none⟩ = some (.int .i64 x.nd) ∧ w.cell? ⟨b, off + k * 5 + 1, none⟩ = some (.int .i64 x.ing) ∧ w.cell? ⟨b, off + k * 5 + 2, none⟩ = some (.int .i64 x.eg) ∧ w.cell? ⟨b, off + k * 5 + 3, none⟩ = some (.int .i64 x.exp) ∧ w.cell? ⟨b, off + k * 5 + 4, none⟩ = some (.int .i64 x.mac) := by
  obtain ⟨b, off, x, e, hb, hx, hc⟩ := h.at_ hk
  exact ⟨b, off, x, e, hb, hx, hc 0 (by omega), hc 1 (by omega), hc 2 (by omega), hc 3 (by omega), hc 4 (by omega)⟩
theorem infoRHop : (Try.prog.info? 24).map (fun i => (i.zero, i.size, i.bytes)) = some (some (.agg #[.int .i64 0, .int .i64 0, .int .i64 0, .int .i64 0, .int .i64 0]), 5, 40) := by kernel_rfl

set_option maxRecDepth 100000 in
set_option maxHeartbeats 800000 in
theorem eqHopV (x : THop) (w : World) : Calls Try.prog 9 #[.agg #[.int .i64 x.nd, .int .i64 x.ing, .int .i64 x.eg, .int .i64 x.exp, .int .i64 x.mac], .agg #[.int .i64 x.nd, .int .i64 x.ing, .int .i64 x.eg, .int .i64 x.exp, .int .i64 x.mac]] w fun e w' => e = .returned (.bool true) ∧ Mk0 w w' := by
  go_enter Try.func9, Try.ntmps9
  go_wp2
  go_ret
  exact ⟨rfl, Mk.of_below (by go_grown)⟩

end Go.Proofs.Ytoicmmandniagaa
