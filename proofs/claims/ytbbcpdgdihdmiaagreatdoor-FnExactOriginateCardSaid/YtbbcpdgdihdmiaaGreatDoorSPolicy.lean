
/- Policy: rows of them: the laws' copy, equality, marks and check. -/
import Derived.Test.YtbbcpdgdihdmiaaGreatDoorRows
import Derived.Test.YtbbcpdgdihdmiaaGreatDoorRow
import Derived.Handy
import Derived.OwnWalk
import Derived.Deep.QuietTactic
import Derived.BigQuiet
import Derived.Deep.RegionWith
import Derived.RegionTactic
namespace Go.Proofs.YtbbcpdgdihdmiaaGreatDoor
open Go.ChangeShapes Go.WideShapes Go.ChangeAt Go.RowKit
set_option linter.unusedVariables false
structure TPolicy where (len : Int) (denied : Int) (closed : Int) (life : Int)
instance : Inhabited TPolicy := ⟨⟨0, 0, 0, 0⟩⟩
def TPolicy.cell (x : TPolicy) : Nat → Value
  | 0 => .int .i64 x.len
  | 1 => .int .i64 x.denied
  | 2 => .int .i64 x.closed
  | _ => .int .i64 x.life
def TPolicy.fits (x : TPolicy) : Prop := (Lit.int .i64 x.len).wf = true ∧ (Lit.int .i64 x.denied).wf = true ∧ (Lit.int .i64 x.closed).wf = true ∧ (Lit.int .i64 x.life).wf = true
abbrev HasPolicy (w : World) (B : Nat) (a : Option Addr) (n : Nat) (zs : List TPolicy) : Prop := HasR 4 TPolicy.cell w B a n zs
abbrev OwnPolicy (w : World) (lo hi : Nat) (a : Option Addr) (n : Nat) (zs : List TPolicy) : Prop := OwnR 4 TPolicy.cell w lo hi a n zs
theorem HasPolicy.at (w : World) (B n k : Nat) (a : Option Addr) (zs : List TPolicy) (h : HasPolicy w B a n zs) (hk : k < n) : ∃ b off x, a = some ⟨b, off, none⟩ ∧ b < B ∧ Hid (x = zs.getD k default) ∧ w.cell? ⟨b, off + k * 4, none⟩ = some (.int .i64 x.len) ∧ w.cell? ⟨b, off + k * 4 + 1, none⟩ = some (.int .i64 x.denied) ∧ w.cell? ⟨b, off + k * 4 + 2, none⟩ = some (.int .i64 x.closed) ∧ w.cell? ⟨b, off + k * 4 + 3, none⟩ = some (.int .i64 x.life) := by
  obtain ⟨b, off, x, e, hb, hx, hc⟩ := h.at_ hk
  exact ⟨b, off, x, e, hb, hx, hc 0 (by omega), hc 1 (by omega), hc 2 (by omega), hc 3 (by omega)⟩
theorem infoRPolicy : (Tryz.prog.info? 39).map (fun i => (i.zero, i.size, i.bytes)) = some (some (.agg #[.int .i64 0, .int .i64 0, .int .i64 0, .int .i64 0]), 4, 32) := by kernel_rfl

set_option maxRecDepth 100000 in
set_option maxHeartbeats 800000 in
theorem toPolicyV (x : TPolicy) (w : World) : Calls Tryz.prog 11 #[.agg #[.int .i64 x.len, .int .i64 x.denied, .int .i64 x.closed, .int .i64 x.life]] w fun e w' => e = .returned (.agg #[.int .i64 x.len, .int .i64 x.denied, .int .i64 x.closed, .int .i64 x.life]) ∧ Mk0 w w' := by
  go_enter Tryz.func11, Tryz.ntmps11
  go_wp2
  refine bodyPost_ret (v := .agg #[.int .i64 x.len, .int .i64 x.denied, .int .i64 x.closed, .int .i64 x.life]) (by simp [results, Tryz.results11, go_sem]) rfl ⟨rfl, Mk.of_below ?_⟩
  go_grown

theorem toPolicyI (x0 : Int) (x1 : Int) (x2 : Int) (x3 : Int) (w : World) : Calls Tryz.prog 11 #[.agg #[.int .i64 x0, .int .i64 x1, .int .i64 x2, .int .i64 x3]] w fun e w' => e = .returned (.agg #[.int .i64 x0, .int .i64 x1, .int .i64 x2, .int .i64 x3]) ∧ Mk0 w w' := toPolicyV ⟨x0, x1, x2, x3⟩ w

end Go.Proofs.YtbbcpdgdihdmiaaGreatDoor
