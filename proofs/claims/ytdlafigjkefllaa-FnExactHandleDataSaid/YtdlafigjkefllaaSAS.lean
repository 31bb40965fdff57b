
/- AS: rows of them: the laws' copy, equality, marks and check. -/
import Derived.Test.YtdlafigjkefllaaRows
import Derived.Test.YtdlafigjkefllaaRow
import Derived.Handy
import Derived.OwnWalk
import Derived.Deep.QuietTactic
import Derived.BigQuiet
import Derived.Deep.RegionWith
import Derived.RegionTactic
namespace Go.Proofs.Ytdlafigjkefllaa
open Go.ChangeShapes Go.WideShapes Go.ChangeAt Go.RowKit
set_option linter.unusedVariables false
structure TAS where (isd : Int) (core : Bool) (key : Int)
instance : Inhabited TAS := ⟨⟨0, false, 0⟩⟩
def TAS.cell (x : TAS) : Nat → Value
  | 0 => .int .i64 x.isd
  | 1 => .bool x.core
  | _ => .int .i64 x.key
def TAS.fits (x : TAS) : Prop := (Lit.int .i64 x.isd).wf = true ∧ (Lit.int .i64 x.key).wf = true
abbrev HasAS (w : World) (B : Nat) (a : Option Addr) (n : Nat) (zs : List TAS) : Prop := HasR 3 TAS.cell w B a n zs
abbrev OwnAS (w : World) (lo hi : Nat) (a : Option Addr) (n : Nat) (zs : List TAS) : Prop := OwnR 3 TAS.cell w lo hi a n zs
theorem HasAS.at (w : World) (B n k : Nat) (a : Option Addr) (zs : List TAS) (h : HasAS w B a n zs) (hk : k < n) : ∃ b off x, a = some ⟨b, off, none⟩ ∧ b < B ∧ Hid (x = zs.getD k default) ∧ w.cell? ⟨b, off + k * 3, none⟩ = some (.int .i64 x.isd) ∧ w.cell? ⟨b, off + k * 3 + 1, none⟩ = some (.bool x.core) ∧ w.cell? ⟨b, off + k * 3 + 2, none⟩ = some (.int .i64 x.key) := by
  obtain ⟨b, off, x, e, hb, hx, hc⟩ := h.at_ hk
  exact ⟨b, off, x, e, hb, hx, hc 0 (by omega), hc 1 (by omega), hc 2 (by omega)⟩
end Go.Proofs.Ytdlafigjkefllaa
