
/- TrustRoot by value: the laws' marks. -/
import Derived.Test.YtdiggegoggchjaaCTrustRoot
import Derived.Test.YtdiggegoggchjaaMSignature
namespace Go.Proofs.Ytdiggegoggchjaa
open Go.ChangeShapes Go.WideShapes Go.ChangeAt Go.RowKit
set_option linter.unusedVariables false

set_option maxRecDepth 100000 in
set_option maxHeartbeats 1600000 in
theorem markTrustRootC (x0 x1 x2 x3 x4 x5 : Int) (a6 : Option Addr) (n6 c6 : Nat) (z6 : List TSignature) (lo  hi : Nat) (k : Int) (w : World) (h6 : OwnSignature w lo hi a6 n6 z6) (hd0 : lo ≤ hi) (hh : hi ≤ w.heap.size) (hk0 : 0 ≤ k) (hk1 : k ≤ 1073741824) (hn6 : n6 ≤ 1048576) :
    Calls Try.prog 49 #[.agg #[.int .i64 x0, .int .i64 x1, .int .i64 x2, .int .i64 x3, .int .i64 x4, .int .i64 x5, .slice a6 n6 c6], .int .i64 k] w fun e w' => ∃ l : Int, (0 ≤ l ∧ l ≤ k + 2 * n6) ∧ e = .returned (.int .i64 l) ∧ Mk lo hi w w' := by
  go_enter Try.func49, Try.ntmps49
  go_wp2_with fail
  have M0 := Mk.alloc w (Obj.cells #[Value.int .i64 x0, Value.int .i64 x1, Value.int .i64 x2, Value.int .i64 x3, Value.int .i64 x4, Value.int .i64 x5, Value.slice a6 n6 c6] 76)
  have k0 : (w.alloc (Obj.cells #[Value.int .i64 x0, Value.int .i64 x1, Value.int .i64 x2, Value.int .i64 x3, Value.int .i64 x4, Value.int .i64 x5, Value.slice a6 n6 c6] 76)).cell? ⟨w.heap.size, 0, none⟩ = some (.int .i64 x0) := by simp [go_sem]
  have k1 : (w.alloc (Obj.cells #[Value.int .i64 x0, Value.int .i64 x1, Value.int .i64 x2, Value.int .i64 x3, Value.int .i64 x4, Value.int .i64 x5, Value.slice a6 n6 c6] 76)).cell? ⟨w.heap.size, 1, none⟩ = some (.int .i64 x1) := by simp [go_sem]
  have k2 : (w.alloc (Obj.cells #[Value.int .i64 x0, Value.int .i64 x1, Value.int .i64 x2, Value.int .i64 x3, Value.int .i64 x4, Value.int .i64 x5, Value.slice a6 n6 c6] 76)).cell? ⟨w.heap.size, 2, none⟩ = some (.int .i64 x2) := by simp [go_sem]
  have k3 : (w.alloc (Obj.cells #[Value.int .i64 x0, Value.int .i64 x1, Value.int .i64 x2, Value.int .i64 x3, Value.int .i64 x4, Value.int .i64 x5, Value.slice a6 n6 c6] 76)).cell? ⟨w.heap.size, 3, none⟩ = some (.int .i64 x3) := by simp [go_sem]
  have k4 : (w.alloc (Obj.cells #[Value.int .i64 x0, Value.int .i64 x1, Value.int .i64 x2, Value.int .i64 x3, Value.int .i64 x4, Value.int .i64 x5, Value.slice a6 n6 c6] 76)).cell? ⟨w.heap.size, 4, none⟩ = some (.int .i64 x4) := by simp [go_sem]
  have k5 : (w.alloc (Obj.cells #[Value.int .i64 x0, Value.int .i64 x1, Value.int .i64 x2, Value.int .i64 x3, Value.int .i64 x4, Value.int .i64 x5, Value.slice a6 n6 c6] 76)).cell? ⟨w.heap.size, 5, none⟩ = some (.int .i64 x5) := by simp [go_sem]
  have k6 : (w.alloc (Obj.cells #[Value.int .i64 x0, Value.int .i64 x1, Value.int .i64 x2, Value.int .i64 x3, Value.int .i64 x4, Value.int .i64 x5, Value.slice a6 n6 c6] 76)).cell? ⟨w.heap.size, 6, none⟩ = some (.slice a6 n6 c6) := by simp [go_sem]
  have A0 : Mk lo hi w _ := M0.wide (.inl (Nat.le_refl _))
  have y0 := M0.size
  refine (markSignatureS _ _ _ lo hi _ z6 _ (h6.mk M0 (by omega) (.inr (.inr (Nat.le_refl _)))) (by omega) (by omega) (by omega)).mono ?_
  rintro e w1 ⟨rfl, m1⟩
  have A1 := A0.trans (m1.wide (.inr ⟨by omega, by omega⟩))
  have y1 := m1.size
  replace k0 := m1.cellAtR k0 (.inr (by omega))
  replace k1 := m1.cellAtR k1 (.inr (by omega))
  replace k2 := m1.cellAtR k2 (.inr (by omega))
  replace k3 := m1.cellAtR k3 (.inr (by omega))
  replace k4 := m1.cellAtR k4 (.inr (by omega))
  replace k5 := m1.cellAtR k5 (.inr (by omega))
  replace k6 := m1.cellAtR k6 (.inr (by omega))
  go_wp2_with fail
  go_ret
  exact ⟨_, ⟨by omega, by omega⟩, rfl, A1⟩
end Go.Proofs.Ytdiggegoggchjaa
