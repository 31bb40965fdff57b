
/- PathPart by value: the laws' marks. -/
import Derived.Test.YtgmpgcfjddbckaaCPathPart
import Derived.Test.YtgmpgcfjddbckaaMHop
namespace Go.Proofs.Ytgmpgcfjddbckaa
open Go.ChangeShapes Go.WideShapes Go.ChangeAt Go.RowKit
set_option linter.unusedVariables false

set_option maxRecDepth 100000 in
set_option maxHeartbeats 1600000 in
theorem markPathPartC (x0 x1 x2 : Int) (a3 : Option Addr) (n3 c3 : Nat) (z3 : List THop) (lo  hi : Nat) (k : Int) (w : World) (h3 : OwnHop w lo hi a3 n3 z3) (hd0 : lo ≤ hi) (hh : hi ≤ w.heap.size) (hk0 : 0 ≤ k) (hk1 : k ≤ 1073741824) (hn3 : n3 ≤ 1048576) :
    Calls Try.prog 17 #[.agg #[.int .i64 x0, .int .i64 x1, .int .i64 x2, .slice a3 n3 c3], .int .i64 k] w fun e w' => ∃ l : Int, (0 ≤ l ∧ l ≤ k + 5 * n3) ∧ e = .returned (.int .i64 l) ∧ Mk lo hi w w' := by
  go_enter Try.func17, Try.ntmps17
  go_wp2_with fail
  have M0 := Mk.alloc w (Obj.cells #[Value.int .i64 x0, Value.int .i64 x1, Value.int .i64 x2, Value.slice a3 n3 c3] 35)
  have k0 : (w.alloc (Obj.cells #[Value.int .i64 x0, Value.int .i64 x1, Value.int .i64 x2, Value.slice a3 n3 c3] 35)).cell? ⟨w.heap.size, 0, none⟩ = some (.int .i64 x0) := by simp [go_sem]
  have k1 : (w.alloc (Obj.cells #[Value.int .i64 x0, Value.int .i64 x1, Value.int .i64 x2, Value.slice a3 n3 c3] 35)).cell? ⟨w.heap.size, 1, none⟩ = some (.int .i64 x1) := by simp [go_sem]
  have k2 : (w.alloc (Obj.cells #[Value.int .i64 x0, Value.int .i64 x1, Value.int .i64 x2, Value.slice a3 n3 c3] 35)).cell? ⟨w.heap.size, 2, none⟩ = some (.int .i64 x2) := by simp [go_sem]
  have k3 : (w.alloc (Obj.cells #[Value.int .i64 x0, Value.int .i64 x1, Value.int .i64 x2, Value.slice a3 n3 c3] 35)).cell? ⟨w.heap.size, 3, none⟩ = some (.slice a3 n3 c3) := by simp [go_sem]
  have A0 : Mk lo hi w _ := M0.wide (.inl (Nat.le_refl _))
  have y0 := M0.size
  refine (markHopS _ _ _ lo hi _ z3 _ (h3.mk M0 (by omega) (.inr (.inr (Nat.le_refl _)))) (by omega) (by omega) (by omega)).mono ?_
  rintro e w1 ⟨rfl, m1⟩
  have A1 := A0.trans (m1.wide (.inr ⟨by omega, by omega⟩))
  have y1 := m1.size
  replace k0 := m1.cellAtR k0 (.inr (by omega))
  replace k1 := m1.cellAtR k1 (.inr (by omega))
  replace k2 := m1.cellAtR k2 (.inr (by omega))
  replace k3 := m1.cellAtR k3 (.inr (by omega))
  go_wp2_with fail
  go_ret
  exact ⟨_, ⟨by omega, by omega⟩, rfl, A1⟩
end Go.Proofs.Ytgmpgcfjddbckaa
