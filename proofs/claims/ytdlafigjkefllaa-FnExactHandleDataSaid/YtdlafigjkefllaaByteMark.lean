
/- The laws' marks on slices of bytes and their check. -/
import Derived.Test.YtdlafigjkefllaaByteS
namespace Go.Proofs.Ytdlafigjkefllaa
open Go.ChangeShapes Go.WideShapes Go.ChangeAt Go.RowKit
set_option linter.unusedVariables false
def bwrap (x : Int) : Int := x % 256
set_option maxRecDepth 100000 in
set_option maxHeartbeats 800000 in
theorem markByte (a : Option Addr) (n c lo : Nat) (k0 : Int) (zs : List Int) (w : World) (h : Own .u8 w lo a n zs) (hn : n ≤ 1073741824) (h0 : 0 ≤ k0) (h1 : k0 ≤ 1099511627776) :
    Calls Try.prog 70 #[.slice a n c, .int .i64 k0] w fun e w' => e = .returned (.int .i64 (k0 + n)) ∧ Own .u8 w' lo a n (marks bwrap k0 n) ∧ w.grownBy w' (rowOf a n) := by
  by_cases hz : n = 0
  · subst hz
    go_enter Try.func70, Try.ntmps70
    go_wp2
    refine wp_loop_rounds 1 ?_; rw [rounds_succ]
    go_wp2
    go_ret
    exact ⟨by simp, Own.none_ _ _ _, grownBy_refl_none _ _⟩
  · obtain ⟨b, off, rfl, hl, hbs, _⟩ := h.2 (by omega)
    have hF := h.fill (fun j => Value.int .u8 (bwrap (k0 + (j : Nat))))
    have hrow : rowOf (some ⟨b, off, none⟩) n = some b := by simp [rowOf, hz]
    have HR := Lib.hid hrow
    clear hrow
    go_enter Try.func70, Try.ntmps70
    go_wp2
    go_loopw [1, 5] (fun q i wr => ∃ k : Nat, k ≤ n ∧ i = .int .i64 k ∧ q = .int .i64 (k0 + k) ∧ Fill wr b off n k (fun j => Value.int .u8 (bwrap (k0 + (j : Nat)))) ∧ w.grownBy wr (some b)) (fun _ i _ => n - (intOf i).toNat)
    case atStart => exact ⟨0, Nat.zero_le _, rfl, by simp, hF, grownBy_refl_none _ _⟩
    case round =>
      clear hF
      obtain ⟨k, hk, rfl, rfl, hF, hG⟩ := hrel
      by_cases hlt : k < n
      · obtain ⟨v, hv, hfr⟩ := hF.at_ hlt
        go_wp2
        go_roundw
        case rel => exact ⟨k + 1, by omega, by go_num, by go_num, hF.set_ hlt rfl, grownBy_trans hG (grownBy_setCell _ _ _)⟩
        case measure => simp [intOf]; omega
      · obtain rfl : k = n := by omega
        go_wp2
        go_ret
        exact ⟨rfl, hF.own (marks_length _ _ _) (fun j hj => by rw [marks_getD _ _ _ _ hj]) hl, by rw [HR.out]; exact hG⟩

set_option maxRecDepth 100000 in
set_option maxHeartbeats 800000 in
theorem heldByte (a : Option Addr) (n c B : Nat) (k0 : Int) (w : World) (h : Has .u8 w B a n (marks bwrap k0 n)) (hn : n ≤ 1073741824) (h0 : 0 ≤ k0) (h1 : k0 ≤ 1099511627776) :
    Calls Try.prog 97 #[.slice a n c, .int .i64 k0] w fun e w' => e = .returned (.int .i64 (k0 + n)) ∧ w = w' := by
  go_enter Try.func97, Try.ntmps97
  go_wp2
  go_loop [1, 4, 5] (fun q r i => r = .int .i64 0 ∧ ∃ k : Nat, k ≤ n ∧ i = .int .i64 k ∧ q = .int .i64 (k0 + k)) (fun _ _ i => n - (intOf i).toNat)
  case atStart => exact ⟨rfl, 0, Nat.zero_le _, rfl, by simp⟩
  case round =>
    obtain ⟨rfl, k, hk, rfl, rfl⟩ := hrel
    by_cases hlt : k < n
    · obtain ⟨b, off, z, rfl, hb, hz, hc⟩ := h.at_ hlt
      obtain rfl : z = (k0 + (k : Nat)) % 256 := by rw [hz.out, marks_getD _ _ _ _ hlt]; rfl
      go_wp2
      go_round
      case rel => exact ⟨rfl, k + 1, by omega, by go_num, by go_num⟩
      case measure => simp [intOf]; omega
    · obtain rfl : k = n := by omega
      go_wp2
      go_ret
      exact ⟨rfl, rfl⟩
end Go.Proofs.Ytdlafigjkefllaa
