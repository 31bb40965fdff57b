
/- The laws' marks on slices of integers and their check. -/
import Derived.Test.YtbkbkpnpllemfaaBetaAt
namespace Go.Proofs.Ytbkbkpnpllemfaa
open Go.ChangeShapes Go.WideShapes Go.ChangeAt Go.RowKit
set_option linter.unusedVariables false
set_option maxRecDepth 100000 in
set_option maxHeartbeats 800000 in
theorem markInt (a : Option Addr) (n c lo : Nat) (k0 : Int) (zs : List Int) (w : World) (h : Own .i64 w lo a n zs) (hn : n ≤ 1073741824) (h0 : 0 ≤ k0) (h1 : k0 ≤ 1099511627776) :
    Calls Try.prog 32 #[.slice a n c, .int .i64 k0] w fun e w' => e = .returned (.int .i64 (k0 + n)) ∧ Own .i64 w' lo a n (marks id k0 n) ∧ w.grownBy w' (rowOf a n) := by
  by_cases hz : n = 0
  · subst hz
    go_enter Try.func32, Try.ntmps32
    go_wp2
    refine wp_loop_rounds 1 ?_; rw [rounds_succ]
    go_wp2
    go_ret
    exact ⟨by simp, Own.none_ _ _ _, grownBy_refl_none _ _⟩
  · obtain ⟨b, off, rfl, hl, hbs, _⟩ := h.2 (by omega)
    have hF := h.fill (fun j => Value.int .i64 (id (k0 + (j : Nat))))
    have hrow : rowOf (some ⟨b, off, none⟩) n = some b := by simp [rowOf, hz]
    have HR := Lib.hid hrow
    clear hrow
    go_enter Try.func32, Try.ntmps32
    go_wp2
    go_loopw [1, 5] (fun q i wr => ∃ k : Nat, k ≤ n ∧ i = .int .i64 k ∧ q = .int .i64 (k0 + k) ∧ Fill wr b off n k (fun j => Value.int .i64 (id (k0 + (j : Nat)))) ∧ w.grownBy wr (some b)) (fun _ i _ => n - (intOf i).toNat)
    case atStart => exact ⟨0, Nat.zero_le _, rfl, by simp, hF, grownBy_refl_none _ _⟩
    case round =>
      clear hF
      obtain ⟨k, hk, rfl, rfl, hF, hG⟩ := hrel
      by_cases hlt : k < n
      · obtain ⟨v, hv, hfr⟩ := hF.at_ hlt
        go_wp2
        go_roundw
        case rel => exact ⟨k + 1, by omega, by go_num, by go_num, hF.set_ hlt rfl, grownBy_trans hG (grownBy_setCell _ _ _)⟩
        case measure => simp [intOf]; omega
      · obtain rfl : k = n := by omega
        go_wp2
        go_ret
        exact ⟨rfl, hF.own (marks_length _ _ _) (fun j hj => by rw [marks_getD _ _ _ _ hj]) hl, by rw [HR.out]; exact hG⟩

end Go.Proofs.Ytbkbkpnpllemfaa
