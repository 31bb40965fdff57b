
/- Signature: rows of them: the laws' copy, equality, marks and check. -/
import Derived.Test.YtoicmmandniagaaRows
import Derived.Test.YtoicmmandniagaaRow
import Derived.Test.YtoicmmandniagaaInfo
import Derived.Handy
import Derived.OwnWalk
import Derived.Deep.QuietTactic
import Derived.BigQuiet
import Derived.Deep.RegionWith
import Derived.RegionTactic
namespace Go.Proofs.Ytoicmmandniagaa
open Go.ChangeShapes Go.WideShapes Go.ChangeAt Go.RowKit
set_option linter.unusedVariables false
structure TSignature where (nd : Int) (val : Int)
instance : Inhabited TSignature := ⟨⟨0, 0⟩⟩
def TSignature.cell (x : TSignature) : Nat → Value
  | 0 => .int .i64 x.nd
  | _ => .int .i64 x.val
def TSignature.fits (x : TSignature) : Prop := (Lit.int .i64 x.nd).wf = true ∧ (Lit.int .i64 x.val).wf = true
abbrev HasSignature (w : World) (B : Nat) (a : Option Addr) (n : Nat) (zs : List TSignature) : Prop := HasR 2 TSignature.cell w B a n zs
abbrev OwnSignature (w : World) (lo hi : Nat) (a : Option Addr) (n : Nat) (zs : List TSignature) : Prop := OwnR 2 TSignature.cell w lo hi a n zs
theorem HasSignature.at (w : World) (B n k : Nat) (a : Option Addr) (zs : List TSignature) (h : HasSignature w B a n zs) (hk : k < n) : ∃ b off x, a = some ⟨b, off, none⟩ ∧ b < B ∧ Hid (x = zs.getD k default) ∧ w.cell? ⟨b, off + k * 2, none⟩ = some (.int .i64 x.nd) ∧ w.cell? ⟨b, off + k * 2 + 1, none⟩ = some (.int .i64 x.val) := by
  obtain ⟨b, off, x, e, hb, hx, hc⟩ := h.at_ hk
  exact ⟨b, off, x, e, hb, hx, hc 0 (by omega), hc 1 (by omega)⟩
theorem infoRSignature : (Try.prog.info? 37).map (fun i => (i.zero, i.size, i.bytes)) = some (some (.agg #[.int .i64 0, .int .i64 0]), 2, 16) := by kernel_rfl

set_option maxRecDepth 100000 in
set_option maxHeartbeats 800000 in
theorem eqSignatureV (x : TSignature) (w : World) : Calls Try.prog 35 #[.agg #[.int .i64 x.nd, .int .i64 x.val], .agg #[.int .i64 x.nd, .int .i64 x.val]] w fun e w' => e = .returned (.bool true) ∧ Mk0 w w' := by
  go_enter Try.func35, Try.ntmps35
  go_wp2
  go_ret
  exact ⟨rfl, Mk.of_below (by go_grown)⟩

end Go.Proofs.Ytoicmmandniagaa
