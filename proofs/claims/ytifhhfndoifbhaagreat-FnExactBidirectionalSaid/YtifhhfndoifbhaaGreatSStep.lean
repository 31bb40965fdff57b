
/- Step: rows of them: the laws' copy, equality, marks and check. -/
import Derived.Test.YtifhhfndoifbhaaGreatRows
import Derived.Test.YtifhhfndoifbhaaGreatRow
import Derived.Handy
import Derived.OwnWalk
import Derived.Deep.QuietTactic
import Derived.BigQuiet
import Derived.Deep.RegionWith
import Derived.RegionTactic
namespace Go.Proofs.YtifhhfndoifbhaaGreat
open Go.ChangeShapes Go.WideShapes Go.ChangeAt Go.RowKit
set_option linter.unusedVariables false
structure TStep where (nd : Int) (ing : Int) (eg : Int)
instance : Inhabited TStep := ⟨⟨0, 0, 0⟩⟩
def TStep.cell (x : TStep) : Nat → Value
  | 0 => .int .i64 x.nd
  | 1 => .int .i64 x.ing
  | _ => .int .i64 x.eg
def TStep.fits (x : TStep) : Prop := (Lit.int .i64 x.nd).wf = true ∧ (Lit.int .i64 x.ing).wf = true ∧ (Lit.int .i64 x.eg).wf = true
abbrev HasStep (w : World) (B : Nat) (a : Option Addr) (n : Nat) (zs : List TStep) : Prop := HasR 3 TStep.cell w B a n zs
abbrev OwnStep (w : World) (lo hi : Nat) (a : Option Addr) (n : Nat) (zs : List TStep) : Prop := OwnR 3 TStep.cell w lo hi a n zs
theorem HasStep.at (w : World) (B n k : Nat) (a : Option Addr) (zs : List TStep) (h : HasStep w B a n zs) (hk : k < n) : ∃ b off x, a = some ⟨b, off, none⟩ ∧ b < B ∧ Hid (x = zs.getD k default) ∧ w.cell? ⟨b, off + k * 3, none⟩ = some (.int .i64 x.nd) ∧ w.cell? ⟨b, off + k * 3 + 1, none⟩ = some (.int .i64 x.ing) ∧ w.cell? ⟨b, off + k * 3 + 2, none⟩ = some (.int .i64 x.eg) := by
  obtain ⟨b, off, x, e, hb, hx, hc⟩ := h.at_ hk
  exact ⟨b, off, x, e, hb, hx, hc 0 (by omega), hc 1 (by omega), hc 2 (by omega)⟩
theorem infoRStep : (Tryz.prog.info? 91).map (fun i => (i.zero, i.size, i.bytes)) = some (some (.agg #[.int .i64 0, .int .i64 0, .int .i64 0]), 3, 24) := by kernel_rfl

end Go.Proofs.YtifhhfndoifbhaaGreat
