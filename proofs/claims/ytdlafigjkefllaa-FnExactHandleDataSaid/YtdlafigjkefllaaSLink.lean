
/- Link: rows of them: the laws' copy, equality, marks and check. -/
import Derived.Test.YtdlafigjkefllaaRows
import Derived.Test.YtdlafigjkefllaaRow
import Derived.Handy
import Derived.OwnWalk
import Derived.Deep.QuietTactic
import Derived.BigQuiet
import Derived.Deep.RegionWith
import Derived.RegionTactic
namespace Go.Proofs.Ytdlafigjkefllaa
open Go.ChangeShapes Go.WideShapes Go.ChangeAt Go.RowKit
set_option linter.unusedVariables false
structure TLink where (a : Int) (ai : Int) (b : Int) (bi : Int) (kind : Int)
instance : Inhabited TLink := ⟨⟨0, 0, 0, 0, 0⟩⟩
def TLink.cell (x : TLink) : Nat → Value
  | 0 => .int .i64 x.a
  | 1 => .int .i64 x.ai
  | 2 => .int .i64 x.b
  | 3 => .int .i64 x.bi
  | _ => .int .i64 x.kind
def TLink.fits (x : TLink) : Prop := (Lit.int .i64 x.a).wf = true ∧ (Lit.int .i64 x.ai).wf = true ∧ (Lit.int .i64 x.b).wf = true ∧ (Lit.int .i64 x.bi).wf = true ∧ (Lit.int .i64 x.kind).wf = true
abbrev HasLink (w : World) (B : Nat) (a : Option Addr) (n : Nat) (zs : List TLink) : Prop := HasR 5 TLink.cell w B a n zs
abbrev OwnLink (w : World) (lo hi : Nat) (a : Option Addr) (n : Nat) (zs : List TLink) : Prop := OwnR 5 TLink.cell w lo hi a n zs
theorem HasLink.at (w : World) (B n k : Nat) (a : Option Addr) (zs : List TLink) (h : HasLink w B a n zs) (hk : k < n) : ∃ b off x, a = some ⟨b, off, none⟩ ∧ b < B ∧ Hid (x = zs.getD k default) ∧ w.cell? ⟨b, off + k * 5, none⟩ = some (.int .i64 x.a) ∧ w.cell? ⟨b, off + k * 5 + 1, none⟩ = some (.int .i64 x.ai) ∧ w.cell? ⟨b, off + k * 5 + 2, none⟩ = some (.int .i64 x.b) ∧ w.cell? ⟨b, off + k * 5 + 3, none⟩ = some (.int .i64 x.bi) ∧ w.cell? ⟨b, off + k * 5 + 4, none⟩ = some (.int .i64 x.kind) := by
  obtain ⟨b, off, x, e, hb, hx, hc⟩ := h.at_ hk
  exact ⟨b, off, x, e, hb, hx, hc 0 (by omega), hc 1 (by omega), hc 2 (by omega), hc 3 (by omega), hc 4 (by omega)⟩
end Go.Proofs.Ytdlafigjkefllaa
