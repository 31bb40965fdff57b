
/- Topology by value: the laws' marks. -/
import Derived.Test.YtbbcpdgdihdmiaaGreatDoorCTopology
import Derived.Test.YtbbcpdgdihdmiaaGreatDoorMAS
import Derived.Test.YtbbcpdgdihdmiaaGreatDoorMLink
namespace Go.Proofs.YtbbcpdgdihdmiaaGreatDoor
open Go.ChangeShapes Go.WideShapes Go.ChangeAt Go.RowKit
set_option linter.unusedVariables false

set_option maxRecDepth 100000 in
set_option maxHeartbeats 1600000 in
theorem markTopologyC (a0 : Option Addr) (n0 c0 : Nat) (z0 : List TAS) (a1 : Option Addr) (n1 c1 : Nat) (z1 : List TLink) (lo d0 hi : Nat) (k : Int) (w : World) (h0 : OwnAS w lo d0 a0 n0 z0) (h1 : OwnLink w d0 hi a1 n1 z1) (hd0 : lo ≤ d0) (hd1 : d0 ≤ hi) (hh : hi ≤ w.heap.size) (hk0 : 0 ≤ k) (hk1 : k ≤ 1073741824) (hn0 : n0 ≤ 1048576) (hn1 : n1 ≤ 1048576) :
    Calls Tryz.prog 15 #[.agg #[.slice a0 n0 c0, .slice a1 n1 c1], .int .i64 k] w fun e w' => ∃ l : Int, (0 ≤ l ∧ l ≤ k + 3 * n0+5 * n1) ∧ e = .returned (.int .i64 l) ∧ Mk lo hi w w' := by
  go_enter Tryz.func15, Tryz.ntmps15
  go_wp2_with fail
  have M0 := Mk.alloc w (Obj.cells #[Value.slice a0 n0 c0, Value.slice a1 n1 c1] 37)
  have k0 : (w.alloc (Obj.cells #[Value.slice a0 n0 c0, Value.slice a1 n1 c1] 37)).cell? ⟨w.heap.size, 0, none⟩ = some (.slice a0 n0 c0) := by simp [go_sem]
  have k1 : (w.alloc (Obj.cells #[Value.slice a0 n0 c0, Value.slice a1 n1 c1] 37)).cell? ⟨w.heap.size, 1, none⟩ = some (.slice a1 n1 c1) := by simp [go_sem]
  have A0 : Mk lo hi w _ := M0.wide (.inl (Nat.le_refl _))
  have y0 := M0.size
  refine (markASS _ _ _ lo d0 _ z0 _ (h0.mk M0 (by omega) (.inr (.inr (Nat.le_refl _)))) (by omega) (by omega) (by omega)).mono ?_
  rintro e w1 ⟨rfl, m1⟩
  have A1 := A0.trans (m1.wide (.inr ⟨by omega, by omega⟩))
  have y1 := m1.size
  replace k0 := m1.cellAtR k0 (.inr (by omega))
  replace k1 := m1.cellAtR k1 (.inr (by omega))
  go_wp2_with fail
  refine (markLinkS _ _ _ d0 hi _ z1 _ ((h1.mk M0 (by omega) (.inr (.inr (Nat.le_refl _)))).mk m1 (by omega) (by omega)) (by omega) (by omega) (by omega)).mono ?_
  rintro e w2 ⟨rfl, m2⟩
  have A2 := A1.trans (m2.wide (.inr ⟨by omega, by omega⟩))
  have y2 := m2.size
  replace k0 := m2.cellAtR k0 (.inr (by omega))
  replace k1 := m2.cellAtR k1 (.inr (by omega))
  go_wp2_with fail
  go_ret
  exact ⟨_, ⟨by omega, by omega⟩, rfl, A2⟩
end Go.Proofs.YtbbcpdgdihdmiaaGreatDoor
