
/- Trace by value: the laws' marks. -/
import Derived.Test.YtkmofhpipcodbaaCTrace
import Derived.Test.YtkmofhpipcodbaaKPacket
import Derived.Test.YtkmofhpipcodbaaMStep
import Derived.Deep.CutRange
import Derived.Deep.RegionHeld3
import Derived.BigQuiet
import Derived.Deep.QuietTactic
namespace Go.Proofs.Ytkmofhpipcodbaa
open Go.ChangeShapes Go.WideShapes Go.ChangeAt Go.RowKit
set_option linter.unusedVariables false

set_option maxRecDepth 100000 in
set_option maxHeartbeats 4000000 in
theorem markTraceC (x0 : Int) (x2 : Int) (x3 : Int) (x4 : Int) (x6 : Int) (x7 : Int) (x8 : Int) (x9 : Int) (x10 : Int) (a1 : Option Addr) (n1 c1 : Nat) (z1 : List TStep) (a5 : Option Addr) (n5 c5 : Nat) (z5 : List TPathPart) (a11 : Option Addr) (n11 c11 : Nat) (z11 : List TByte) (lo d1 d5 hi : Nat) (k : Int) (w : World) (h1 : OwnStep w lo d1 a1 n1 z1) (h5 : OwnPathPart w d1 d5 a5 n5 z5) (h11 : OwnByte w d5 hi a11 n11 z11) (hd0 : lo ≤ d1) (hd1 : d1 ≤ d5) (hd2 : d5 ≤ hi) (hh : hi ≤ w.heap.size) (hk0 : 0 ≤ k) (hk1 : k ≤ 16777216) (hn1 : n1 ≤ 1048576) (hn5 : szPathPart z5 n5 ≤ 1048576) (hn11 : n11 ≤ 1048576) :
    Calls Try.prog 26 #[.agg #[.int .i64 x0, .slice a1 n1 c1, .int .i64 x2, .int .i64 x3, .int .i64 x4, .slice a5 n5 c5, .int .i64 x6, .int .i64 x7, .int .i64 x8, .int .i64 x9, .int .i64 x10, .slice a11 n11 c11], .int .i64 k] w fun e w' => ∃ l : Int, (0 ≤ l ∧ l ≤ k + (3145728 + 8388608 + 1048576)) ∧ e = .returned (.int .i64 l) ∧ Mk lo hi w w' := by
  have M0 := Mk.alloc w (Obj.cells #[Value.int .i64 x0, Value.slice a1 n1 c1, Value.int .i64 x2, Value.int .i64 x3, Value.int .i64 x4, Value.slice a5 n5 c5, Value.int .i64 x6, Value.int .i64 x7, Value.int .i64 x8, Value.int .i64 x9, Value.int .i64 x10, Value.slice a11 n11 c11] 61)
  have k1 : (w.alloc (Obj.cells #[Value.int .i64 x0, Value.slice a1 n1 c1, Value.int .i64 x2, Value.int .i64 x3, Value.int .i64 x4, Value.slice a5 n5 c5, Value.int .i64 x6, Value.int .i64 x7, Value.int .i64 x8, Value.int .i64 x9, Value.int .i64 x10, Value.slice a11 n11 c11] 61)).cell? ⟨w.heap.size, 1, none⟩ = some (.slice a1 n1 c1) := by simp [go_sem]
  have k2 : (w.alloc (Obj.cells #[Value.int .i64 x0, Value.slice a1 n1 c1, Value.int .i64 x2, Value.int .i64 x3, Value.int .i64 x4, Value.slice a5 n5 c5, Value.int .i64 x6, Value.int .i64 x7, Value.int .i64 x8, Value.int .i64 x9, Value.int .i64 x10, Value.slice a11 n11 c11] 61)).cell? ⟨w.heap.size, 2, none⟩ = some (.int .i64 x2) := by simp [go_sem]
  have k3 : (w.alloc (Obj.cells #[Value.int .i64 x0, Value.slice a1 n1 c1, Value.int .i64 x2, Value.int .i64 x3, Value.int .i64 x4, Value.slice a5 n5 c5, Value.int .i64 x6, Value.int .i64 x7, Value.int .i64 x8, Value.int .i64 x9, Value.int .i64 x10, Value.slice a11 n11 c11] 61)).cell? ⟨w.heap.size, 3, none⟩ = some (.int .i64 x3) := by simp [go_sem]
  have k4 : (w.alloc (Obj.cells #[Value.int .i64 x0, Value.slice a1 n1 c1, Value.int .i64 x2, Value.int .i64 x3, Value.int .i64 x4, Value.slice a5 n5 c5, Value.int .i64 x6, Value.int .i64 x7, Value.int .i64 x8, Value.int .i64 x9, Value.int .i64 x10, Value.slice a11 n11 c11] 61)).cell? ⟨w.heap.size, 4, none⟩ = some (.int .i64 x4) := by simp [go_sem]
  have k5 : (w.alloc (Obj.cells #[Value.int .i64 x0, Value.slice a1 n1 c1, Value.int .i64 x2, Value.int .i64 x3, Value.int .i64 x4, Value.slice a5 n5 c5, Value.int .i64 x6, Value.int .i64 x7, Value.int .i64 x8, Value.int .i64 x9, Value.int .i64 x10, Value.slice a11 n11 c11] 61)).cell? ⟨w.heap.size, 5, none⟩ = some (.slice a5 n5 c5) := by simp [go_sem]
  have k6 : (w.alloc (Obj.cells #[Value.int .i64 x0, Value.slice a1 n1 c1, Value.int .i64 x2, Value.int .i64 x3, Value.int .i64 x4, Value.slice a5 n5 c5, Value.int .i64 x6, Value.int .i64 x7, Value.int .i64 x8, Value.int .i64 x9, Value.int .i64 x10, Value.slice a11 n11 c11] 61)).cell? ⟨w.heap.size, 6, none⟩ = some (.int .i64 x6) := by simp [go_sem]
  have k7 : (w.alloc (Obj.cells #[Value.int .i64 x0, Value.slice a1 n1 c1, Value.int .i64 x2, Value.int .i64 x3, Value.int .i64 x4, Value.slice a5 n5 c5, Value.int .i64 x6, Value.int .i64 x7, Value.int .i64 x8, Value.int .i64 x9, Value.int .i64 x10, Value.slice a11 n11 c11] 61)).cell? ⟨w.heap.size, 7, none⟩ = some (.int .i64 x7) := by simp [go_sem]
  have k8 : (w.alloc (Obj.cells #[Value.int .i64 x0, Value.slice a1 n1 c1, Value.int .i64 x2, Value.int .i64 x3, Value.int .i64 x4, Value.slice a5 n5 c5, Value.int .i64 x6, Value.int .i64 x7, Value.int .i64 x8, Value.int .i64 x9, Value.int .i64 x10, Value.slice a11 n11 c11] 61)).cell? ⟨w.heap.size, 8, none⟩ = some (.int .i64 x8) := by simp [go_sem]
  have k9 : (w.alloc (Obj.cells #[Value.int .i64 x0, Value.slice a1 n1 c1, Value.int .i64 x2, Value.int .i64 x3, Value.int .i64 x4, Value.slice a5 n5 c5, Value.int .i64 x6, Value.int .i64 x7, Value.int .i64 x8, Value.int .i64 x9, Value.int .i64 x10, Value.slice a11 n11 c11] 61)).cell? ⟨w.heap.size, 9, none⟩ = some (.int .i64 x9) := by simp [go_sem]
  have k10 : (w.alloc (Obj.cells #[Value.int .i64 x0, Value.slice a1 n1 c1, Value.int .i64 x2, Value.int .i64 x3, Value.int .i64 x4, Value.slice a5 n5 c5, Value.int .i64 x6, Value.int .i64 x7, Value.int .i64 x8, Value.int .i64 x9, Value.int .i64 x10, Value.slice a11 n11 c11] 61)).cell? ⟨w.heap.size, 10, none⟩ = some (.int .i64 x10) := by simp [go_sem]
  have k11 : (w.alloc (Obj.cells #[Value.int .i64 x0, Value.slice a1 n1 c1, Value.int .i64 x2, Value.int .i64 x3, Value.int .i64 x4, Value.slice a5 n5 c5, Value.int .i64 x6, Value.int .i64 x7, Value.int .i64 x8, Value.int .i64 x9, Value.int .i64 x10, Value.slice a11 n11 c11] 61)).cell? ⟨w.heap.size, 11, none⟩ = some (.slice a11 n11 c11) := by simp [go_sem]
  have szA : (w.alloc (Obj.cells #[Value.int .i64 x0, Value.slice a1 n1 c1, Value.int .i64 x2, Value.int .i64 x3, Value.int .i64 x4, Value.slice a5 n5 c5, Value.int .i64 x6, Value.int .i64 x7, Value.int .i64 x8, Value.int .i64 x9, Value.int .i64 x10, Value.slice a11 n11 c11] 61)).heap.size = w.heap.size + 1 := by rw [World.size_alloc]
  replace h1 := h1.mk M0 (by omega) (.inr (.inr (Nat.le_refl _)))
  replace h5 := h5.mk M0 (by omega) (.inr (.inr (Nat.le_refl _)))
  replace h11 := h11.mk M0 (by omega) (.inr (.inr (Nat.le_refl _)))
  have M : Mk lo hi w _ := M0.wide (.inl (Nat.le_refl _))
  go_enter Try.func26, Try.ntmps26
  go_wp2_with fail
  generalize w.alloc (Obj.cells #[Value.int .i64 x0, Value.slice a1 n1 c1, Value.int .i64 x2, Value.int .i64 x3, Value.int .i64 x4, Value.slice a5 n5 c5, Value.int .i64 x6, Value.int .i64 x7, Value.int .i64 x8, Value.int .i64 x9, Value.int .i64 x10, Value.slice a11 n11 c11] 61) = u0 at *
  refine (markStepS a1 n1 c1 lo d1 _ z1 _ h1 (by omega) (by omega) (by omega)).mono ?_
  rintro e w1 ⟨rfl, m1⟩
  have zt1 := m1.size
  replace k2 := m1.cellAtR k2 (.inr (by omega))
  replace k3 := m1.cellAtR k3 (.inr (by omega))
  replace k4 := m1.cellAtR k4 (.inr (by omega))
  replace k5 := m1.cellAtR k5 (.inr (by omega))
  replace k6 := m1.cellAtR k6 (.inr (by omega))
  replace k7 := m1.cellAtR k7 (.inr (by omega))
  replace k8 := m1.cellAtR k8 (.inr (by omega))
  replace k9 := m1.cellAtR k9 (.inr (by omega))
  replace k10 := m1.cellAtR k10 (.inr (by omega))
  replace k11 := m1.cellAtR k11 (.inr (by omega))
  replace h5 := h5.mk m1 (by omega) (by omega)
  replace h11 := h11.mk m1 (by omega) (by omega)
  replace M := M.trans (m1.wide (.inr ⟨by omega, by omega⟩))
  go_wp2_with fail
  refine (markPacketC x2 x3 x4 x6 x7 x8 x9 x10 a5 n5 c5 z5 a11 n11 c11 z11 d1 d5 hi _ _ h5 h11 (by omega) (by omega) (by omega) (by omega) (by omega) hn5 hn11).mono ?_
  rintro e w2 ⟨l2, hl2, rfl, m2⟩
  have zt2 := m2.size
  replace M := M.trans (m2.wide (.inr ⟨by omega, by omega⟩))
  go_wp2_with fail
  go_ret
  exact ⟨_, ⟨by omega, by omega⟩, rfl, M⟩
end Go.Proofs.Ytkmofhpipcodbaa
