
/- Segment by value: the laws' marks. -/
import Derived.Test.YtbkbkpnpllemfaaCSegment
import Derived.Test.YtbkbkpnpllemfaaMHop
namespace Go.Proofs.Ytbkbkpnpllemfaa
open Go.ChangeShapes Go.WideShapes Go.ChangeAt Go.RowKit
set_option linter.unusedVariables false

set_option maxRecDepth 100000 in
set_option maxHeartbeats 1600000 in
theorem markSegmentC (x0 x1 : Int) (a2 : Option Addr) (n2 c2 : Nat) (z2 : List THop) (lo  hi : Nat) (k : Int) (w : World) (h2 : OwnHop w lo hi a2 n2 z2) (hd0 : lo ≤ hi) (hh : hi ≤ w.heap.size) (hk0 : 0 ≤ k) (hk1 : k ≤ 1073741824) (hn2 : n2 ≤ 1048576) :
    Calls Try.prog 14 #[.agg #[.int .i64 x0, .int .i64 x1, .slice a2 n2 c2], .int .i64 k] w fun e w' => ∃ l : Int, (0 ≤ l ∧ l ≤ k + 5 * n2) ∧ e = .returned (.int .i64 l) ∧ Mk lo hi w w' := by
  go_enter Try.func14, Try.ntmps14
  go_wp2_with fail
  have M0 := Mk.alloc w (Obj.cells #[Value.int .i64 x0, Value.int .i64 x1, Value.slice a2 n2 c2] 28)
  have k0 : (w.alloc (Obj.cells #[Value.int .i64 x0, Value.int .i64 x1, Value.slice a2 n2 c2] 28)).cell? ⟨w.heap.size, 0, none⟩ = some (.int .i64 x0) := by simp [go_sem]
  have k1 : (w.alloc (Obj.cells #[Value.int .i64 x0, Value.int .i64 x1, Value.slice a2 n2 c2] 28)).cell? ⟨w.heap.size, 1, none⟩ = some (.int .i64 x1) := by simp [go_sem]
  have k2 : (w.alloc (Obj.cells #[Value.int .i64 x0, Value.int .i64 x1, Value.slice a2 n2 c2] 28)).cell? ⟨w.heap.size, 2, none⟩ = some (.slice a2 n2 c2) := by simp [go_sem]
  have A0 : Mk lo hi w _ := M0.wide (.inl (Nat.le_refl _))
  have y0 := M0.size
  refine (markHopS _ _ _ lo hi _ z2 _ (h2.mk M0 (by omega) (.inr (.inr (Nat.le_refl _)))) (by omega) (by omega) (by omega)).mono ?_
  rintro e w1 ⟨rfl, m1⟩
  have A1 := A0.trans (m1.wide (.inr ⟨by omega, by omega⟩))
  have y1 := m1.size
  replace k0 := m1.cellAtR k0 (.inr (by omega))
  replace k1 := m1.cellAtR k1 (.inr (by omega))
  replace k2 := m1.cellAtR k2 (.inr (by omega))
  go_wp2_with fail
  go_ret
  exact ⟨_, ⟨by omega, by omega⟩, rfl, A1⟩
end Go.Proofs.Ytbkbkpnpllemfaa
