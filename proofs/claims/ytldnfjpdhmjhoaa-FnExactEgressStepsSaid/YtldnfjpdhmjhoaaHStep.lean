
/- Step: rows of them: the laws' marks, by content, and their check. -/
import Derived.Test.YtldnfjpdhmjhoaaSStep
namespace Go.Proofs.Ytldnfjpdhmjhoaa
open Go.ChangeShapes Go.WideShapes Go.ChangeAt Go.RowKit
set_option linter.unusedVariables false
def mklStep (k0 : Int) (n : Nat) : List TStep := (List.range n).map fun i => ⟨k0 + 3 * ((i : Nat) : Int), k0 + 3 * ((i : Nat) : Int) + 1, k0 + 3 * ((i : Nat) : Int) + 2⟩
theorem mklStep_len (k0 : Int) (n : Nat) : (mklStep k0 n).length = n := by simp [mklStep]
theorem mklStep_at (k0 : Int) {n i : Nat} (h : i < n) : (mklStep k0 n).getD i default = ⟨k0 + 3 * ((i : Nat) : Int), k0 + 3 * ((i : Nat) : Int) + 1, k0 + 3 * ((i : Nat) : Int) + 2⟩ := by simp [mklStep, List.getD_eq_getElem?_getD, h]
theorem fill_pStep {w : World} {b off n i : Nat} {f : Nat → Value} (h : Fill w b off n i f) (hi : i < n) {p : Nat} (hp : p = off + i) {u : Value} (hu : u = f i) : Fill (w.setCell ⟨b, p, none⟩ u) b off n (i + 1) f := by subst hp; exact h.set_ hi hu
set_option maxRecDepth 100000 in
set_option maxHeartbeats 1600000 in
theorem markStepM (a : Option Addr) (n c lo hi : Nat) (k0 : Int) (zs : List TStep) (w : World) (h : OwnStep w lo hi a n zs) (hn : n ≤ 2097152) (h0 : 0 ≤ k0) (h1 : k0 ≤ 1099511627776) :
    Calls Try.prog 14 #[.slice a n c, .int .i64 k0] w fun e w' => e = .returned (.int .i64 (k0 + 3 * n)) ∧ OwnStep w' lo hi a n (mklStep k0 n) ∧ Mk lo hi w w' := by
  by_cases hz : n = 0
  · subst hz
    go_enter Try.func14, Try.ntmps14
    go_wp2
    refine wp_loop_rounds 1 ?_; rw [rounds_succ]
    go_wp2
    go_ret
    exact ⟨by simp, OwnR.none_ _ _ _ _, Mk.refl _ _ _⟩
  · obtain ⟨b, off, rfl, hl, hb, _⟩ := h.2 (by omega)
    have hF := h.fill (flat 3 TStep.cell (mklStep k0 n))
    go_enter Try.func14, Try.ntmps14
    go_wp2
    go_loopw [1, 5] (fun q i wr => ∃ k : Nat, k ≤ n ∧ i = .int .i64 k ∧ q = .int .i64 (k0 + 3 * k) ∧ Fill wr b off (n * 3) (k * 3) (flat 3 TStep.cell (mklStep k0 n)) ∧ Mk lo hi w wr) (fun _ i _ => n - (intOf i).toNat)
    case atStart => exact ⟨0, Nat.zero_le _, rfl, by simp, by simpa using hF, Mk.refl _ _ _⟩
    case round =>
      clear hF
      obtain ⟨k, hk, rfl, rfl, hF, hM⟩ := hrel
      by_cases hlt : k < n
      · obtain ⟨v0, hv0, hf0⟩ := hF.any (k * 3) (by omega)
        obtain ⟨v1, hv1, hf1⟩ := hF.any (k * 3 + 1) (by omega)
        rw [← Nat.add_assoc] at hv1 hf1
        obtain ⟨v2, hv2, hf2⟩ := hF.any (k * 3 + 2) (by omega)
        rw [← Nat.add_assoc] at hv2 hf2
        have e0 := Lib.hid (show ∀ z : Int, z = k0 + 3 * (k : Int) → Value.int .i64 z = flat 3 TStep.cell (mklStep k0 n) (k * 3 + 0) from fun z hz => by rw [flat_at _ k 0 (by omega), mklStep_at k0 hlt, hz]; rfl)
        have e1 := Lib.hid (show ∀ z : Int, z = k0 + 3 * (k : Int) + 1 → Value.int .i64 z = flat 3 TStep.cell (mklStep k0 n) (k * 3 + 1) from fun z hz => by rw [flat_at _ k 1 (by omega), mklStep_at k0 hlt, hz]; rfl)
        have e2 := Lib.hid (show ∀ z : Int, z = k0 + 3 * (k : Int) + 2 → Value.int .i64 z = flat 3 TStep.cell (mklStep k0 n) (k * 3 + 2) from fun z hz => by rw [flat_at _ k 2 (by omega), mklStep_at k0 hlt, hz]; rfl)
        go_wp2
        go_roundw
        case rel => exact ⟨k + 1, by omega, by go_num, by go_num, (Nat.succ_mul k 3).symm ▸ (fill_pStep (fill_pStep (fill_pStep hF (by omega) (by omega) (e0.out _ (by first | rfl | go_num | omega))) (by omega) (by omega) (e1.out _ (by first | rfl | go_num | omega))) (by omega) (by omega) (e2.out _ (by first | rfl | go_num | omega))), (((hM.putR _ _ hl hb).putR _ _ hl hb).putR _ _ hl hb)⟩
        case measure => simp [intOf]; omega
      · obtain rfl : k = n := by omega
        go_wp2
        go_ret
        exact ⟨rfl, hF.ownR (mklStep_len _ _) (fun i hi j hj => flat_at _ i j hj) hl hb (by omega), hM⟩

set_option maxRecDepth 100000 in
set_option maxHeartbeats 1600000 in
theorem heldStepM (a : Option Addr) (n c B : Nat) (k0 : Int) (w : World) (h : HasStep w B a n (mklStep k0 n)) (hn : n ≤ 2097152) (h0 : 0 ≤ k0) (h1 : k0 ≤ 1099511627776) :
    Calls Try.prog 15 #[.slice a n c, .int .i64 k0] w fun e w' => e = .returned (.int .i64 (k0 + 3 * n)) ∧ w = w' := by
  go_enter Try.func15, Try.ntmps15
  go_wp2
  go_loop [1, 4, 5] (fun q r i => r = .int .i64 0 ∧ ∃ k : Nat, k ≤ n ∧ i = .int .i64 k ∧ q = .int .i64 (k0 + 3 * k)) (fun _ _ i => n - (intOf i).toNat)
  case atStart => exact ⟨rfl, 0, Nat.zero_le _, rfl, by simp⟩
  case round =>
    obtain ⟨rfl, k, hk, rfl, rfl⟩ := hrel
    by_cases hlt : k < n
    · obtain ⟨b, off, x, rfl, hb, hx, c0, c1, c2⟩ := HasStep.at _ _ _ _ _ _ h hlt
      obtain rfl := hx.out.trans (mklStep_at k0 hlt)
      simp only at c0 c1 c2
      go_wp2
      go_round
      case rel => exact ⟨rfl, k + 1, by omega, by go_num, by go_num⟩
      case measure => simp [intOf]; omega
    · obtain rfl : k = n := by omega
      go_wp2
      go_ret
      exact ⟨rfl, rfl⟩
end Go.Proofs.Ytldnfjpdhmjhoaa
