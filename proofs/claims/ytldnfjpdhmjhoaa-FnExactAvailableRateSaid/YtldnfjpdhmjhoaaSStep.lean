
/- Step: rows of them: the laws' copy, equality, marks and check. -/
import Derived.Test.YtldnfjpdhmjhoaaRows
import Derived.Test.YtldnfjpdhmjhoaaRow
import Derived.Handy
import Derived.OwnWalk
import Derived.Deep.QuietTactic
import Derived.BigQuiet
import Derived.Deep.RegionWith
import Derived.RegionTactic
namespace Go.Proofs.Ytldnfjpdhmjhoaa
open Go.ChangeShapes Go.WideShapes Go.ChangeAt Go.RowKit
set_option linter.unusedVariables false
structure TStep where (nd : Int) (ing : Int) (eg : Int)
instance : Inhabited TStep := ⟨⟨0, 0, 0⟩⟩
def TStep.cell (x : TStep) : Nat → Value
  | 0 => .int .i64 x.nd
  | 1 => .int .i64 x.ing
  | _ => .int .i64 x.eg
def TStep.fits (x : TStep) : Prop := (Lit.int .i64 x.nd).wf = true ∧ (Lit.int .i64 x.ing).wf = true ∧ (Lit.int .i64 x.eg).wf = true
abbrev HasStep (w : World) (B : Nat) (a : Option Addr) (n : Nat) (zs : List TStep) : Prop := HasR 3 TStep.cell w B a n zs
abbrev OwnStep (w : World) (lo hi : Nat) (a : Option Addr) (n : Nat) (zs : List TStep) : Prop := OwnR 3 TStep.cell w lo hi a n zs
theorem HasStep.at (w : World) (B n k : Nat) (a : Option Addr) (zs : List TStep) (h : HasStep w B a n zs) (hk : k < n) : ∃ b off x, a = some ⟨b, off, none⟩ ∧ b < B ∧ Hid (x = zs.getD k default) ∧ w.cell? ⟨b, off + k * 3, none⟩ = some (.int .i64 x.nd) ∧ w.cell? ⟨b, off + k * 3 + 1, none⟩ = some (.int .i64 x.ing) ∧ w.cell? ⟨b, off + k * 3 + 2, none⟩ = some (.int .i64 x.eg) := by
  obtain ⟨b, off, x, e, hb, hx, hc⟩ := h.at_ hk
  exact ⟨b, off, x, e, hb, hx, hc 0 (by omega), hc 1 (by omega), hc 2 (by omega)⟩
theorem infoRStep : (Try.prog.info? 49).map (fun i => (i.zero, i.size, i.bytes)) = some (some (.agg #[.int .i64 0, .int .i64 0, .int .i64 0]), 3, 24) := by kernel_rfl

set_option maxRecDepth 100000 in
set_option maxHeartbeats 800000 in
theorem eqStepV (x : TStep) (w : World) : Calls Try.prog 30 #[.agg #[.int .i64 x.nd, .int .i64 x.ing, .int .i64 x.eg], .agg #[.int .i64 x.nd, .int .i64 x.ing, .int .i64 x.eg]] w fun e w' => e = .returned (.bool true) ∧ Mk0 w w' := by
  go_enter Try.func30, Try.ntmps30
  go_wp2
  go_ret
  exact ⟨rfl, Mk.of_below (by go_grown)⟩

set_option maxRecDepth 100000 in
set_option maxHeartbeats 1600000 in
theorem eqStepS (a a' : Option Addr) (n c c' B B' : Nat) (zs : List TStep) (w : World) (h : HasStep w B a n zs) (h' : HasStep w B' a' n zs) (hB : B ≤ w.heap.size) (hB' : B' ≤ w.heap.size) (hn : n ≤ 1073741824) :
    Calls Try.prog 11 #[.slice a n c, .slice a' n c'] w fun e w' => e = .returned (.bool true) ∧ Mk0 w w' := by
  go_enter Try.func11, Try.ntmps11
  go_wp2
  go_loopw [4, 5] (fun r i wr => r = .bool false ∧ ∃ k : Nat, k ≤ n ∧ i = .int .i64 k ∧ Mk0 w wr) (fun _ i _ => n - (intOf i).toNat)
  case atStart => exact ⟨rfl, 0, Nat.zero_le _, rfl, Mk.refl _ _ _⟩
  case round =>
    obtain ⟨rfl, k, hk, rfl, hM⟩ := hrel
    by_cases hlt : k < n
    · obtain ⟨b, off, x, rfl, hb, hx, c0, c1, c2⟩ := HasStep.at _ _ _ _ _ _ (h.mk hM hB (.inr (Nat.le_refl _))) hlt
      obtain ⟨b', off', x', rfl, hb', hx', d0, d1, d2⟩ := HasStep.at _ _ _ _ _ _ (h'.mk hM hB' (.inr (Nat.le_refl _))) hlt
      obtain rfl : x = x' := hx.out.trans hx'.out.symm
      go_wp2_with fail
      go_region_with (go_at_call 30; refine (eqStepV x _).mono ?_; rintro e w2 ⟨rfl, m2⟩)
      all_goals (
        have m3 : Mk0 wr w2 := ⟨m2.os, m2.tape, m2.output, m2.size, m2.block⟩
        clear m2 c0 d0 c1 d1 c2 d2
        refine ‹∀ (a : Act) (w : World), _ → _› _ _ ?_
        go_wp2_with fail
        go_roundw
        case rel => exact ⟨rfl, k + 1, by omega, by go_num, hM.trans m3⟩
        case measure => simp [intOf]; omega)
    · obtain rfl : k = n := by omega
      go_wp2_with fail
      go_ret
      exact ⟨rfl, hM⟩
end Go.Proofs.Ytldnfjpdhmjhoaa
