
/- SignedSegment by value: the laws' copy, equality and size. -/
import Derived.Test.YtiphndgmgpiodaaCSegment
import Derived.Test.YtiphndgmgpiodaaIntR
import Derived.Test.YtiphndgmgpiodaaIntZ
namespace Go.Proofs.Ytiphndgmgpiodaa
open Go.ChangeShapes Go.WideShapes Go.ChangeAt Go.RowKit
set_option linter.unusedVariables false

set_option maxRecDepth 100000 in
set_option maxHeartbeats 4000000 in
theorem toSignedSegmentC (x0 : Int) (x1 : Int) (a2 : Option Addr) (n2 c2 : Nat) (z2 : List THop) (a3 : Option Addr) (n3 c3 : Nat) (z3 : List TInt) (B : Nat) (w : World) (h2 : HasHop w B a2 n2 z2) (h3 : HasInt w B a3 n3 z3) (hB : B ≤ w.heap.size) (hn2 : n2 ≤ 1048576) (hn3 : n3 ≤ 1048576) :
    Calls Try.prog 26 #[.agg #[.int .i64 x0, .int .i64 x1, .slice a2 n2 c2, .slice a3 n3 c3]] w fun e w' => ∃ b2 b3 m2, e = .returned (.agg #[.int .i64 x0, .int .i64 x1, .slice (some ⟨b2, 0, none⟩) n2 n2, .slice (some ⟨b3, 0, none⟩) n3 n3]) ∧ OwnHop w' w.heap.size m2 (some ⟨b2, 0, none⟩) n2 z2 ∧ OwnInt w' m2 w'.heap.size (some ⟨b3, 0, none⟩) n3 z3 ∧ w.heap.size ≤ m2 ∧ m2 ≤ w'.heap.size ∧ Mk0 w w' := by
  have M := ((Mk.alloc w (Obj.cells #[Value.int .i64 x0, Value.int .i64 x1, Value.slice a2 n2 c2, Value.slice a3 n3 c3] 48)).new (Obj.cells #[Value.int .i64 0, Value.int .i64 0, Value.slice none 0 0, Value.slice none 0 0] 58)).new (Obj.cells #[Value.int .i64 0, Value.int .i64 0, Value.slice none 0 0, Value.slice none 0 0] 58)
  have k0 : (((w.alloc (Obj.cells #[Value.int .i64 x0, Value.int .i64 x1, Value.slice a2 n2 c2, Value.slice a3 n3 c3] 48)).alloc (Obj.cells #[Value.int .i64 0, Value.int .i64 0, Value.slice none 0 0, Value.slice none 0 0] 58)).alloc (Obj.cells #[Value.int .i64 0, Value.int .i64 0, Value.slice none 0 0, Value.slice none 0 0] 58)).cell? ⟨w.heap.size, 0, none⟩ = some (.int .i64 x0) := by simp [go_sem]
  have k1 : (((w.alloc (Obj.cells #[Value.int .i64 x0, Value.int .i64 x1, Value.slice a2 n2 c2, Value.slice a3 n3 c3] 48)).alloc (Obj.cells #[Value.int .i64 0, Value.int .i64 0, Value.slice none 0 0, Value.slice none 0 0] 58)).alloc (Obj.cells #[Value.int .i64 0, Value.int .i64 0, Value.slice none 0 0, Value.slice none 0 0] 58)).cell? ⟨w.heap.size, 1, none⟩ = some (.int .i64 x1) := by simp [go_sem]
  have k2 : (((w.alloc (Obj.cells #[Value.int .i64 x0, Value.int .i64 x1, Value.slice a2 n2 c2, Value.slice a3 n3 c3] 48)).alloc (Obj.cells #[Value.int .i64 0, Value.int .i64 0, Value.slice none 0 0, Value.slice none 0 0] 58)).alloc (Obj.cells #[Value.int .i64 0, Value.int .i64 0, Value.slice none 0 0, Value.slice none 0 0] 58)).cell? ⟨w.heap.size, 2, none⟩ = some (.slice a2 n2 c2) := by simp [go_sem]
  have k3 : (((w.alloc (Obj.cells #[Value.int .i64 x0, Value.int .i64 x1, Value.slice a2 n2 c2, Value.slice a3 n3 c3] 48)).alloc (Obj.cells #[Value.int .i64 0, Value.int .i64 0, Value.slice none 0 0, Value.slice none 0 0] 58)).alloc (Obj.cells #[Value.int .i64 0, Value.int .i64 0, Value.slice none 0 0, Value.slice none 0 0] 58)).cell? ⟨w.heap.size, 3, none⟩ = some (.slice a3 n3 c3) := by simp [go_sem]
  have r0 : (((w.alloc (Obj.cells #[Value.int .i64 x0, Value.int .i64 x1, Value.slice a2 n2 c2, Value.slice a3 n3 c3] 48)).alloc (Obj.cells #[Value.int .i64 0, Value.int .i64 0, Value.slice none 0 0, Value.slice none 0 0] 58)).alloc (Obj.cells #[Value.int .i64 0, Value.int .i64 0, Value.slice none 0 0, Value.slice none 0 0] 58)).cell? ⟨w.heap.size + 1, 0, none⟩ = some (.int .i64 0) := by simp [go_sem]
  have r1 : (((w.alloc (Obj.cells #[Value.int .i64 x0, Value.int .i64 x1, Value.slice a2 n2 c2, Value.slice a3 n3 c3] 48)).alloc (Obj.cells #[Value.int .i64 0, Value.int .i64 0, Value.slice none 0 0, Value.slice none 0 0] 58)).alloc (Obj.cells #[Value.int .i64 0, Value.int .i64 0, Value.slice none 0 0, Value.slice none 0 0] 58)).cell? ⟨w.heap.size + 1, 1, none⟩ = some (.int .i64 0) := by simp [go_sem]
  have r2 : (((w.alloc (Obj.cells #[Value.int .i64 x0, Value.int .i64 x1, Value.slice a2 n2 c2, Value.slice a3 n3 c3] 48)).alloc (Obj.cells #[Value.int .i64 0, Value.int .i64 0, Value.slice none 0 0, Value.slice none 0 0] 58)).alloc (Obj.cells #[Value.int .i64 0, Value.int .i64 0, Value.slice none 0 0, Value.slice none 0 0] 58)).cell? ⟨w.heap.size + 1, 2, none⟩ = some (.slice none 0 0) := by simp [go_sem]
  have r3 : (((w.alloc (Obj.cells #[Value.int .i64 x0, Value.int .i64 x1, Value.slice a2 n2 c2, Value.slice a3 n3 c3] 48)).alloc (Obj.cells #[Value.int .i64 0, Value.int .i64 0, Value.slice none 0 0, Value.slice none 0 0] 58)).alloc (Obj.cells #[Value.int .i64 0, Value.int .i64 0, Value.slice none 0 0, Value.slice none 0 0] 58)).cell? ⟨w.heap.size + 1, 3, none⟩ = some (.slice none 0 0) := by simp [go_sem]
  have p0 : (((w.alloc (Obj.cells #[Value.int .i64 x0, Value.int .i64 x1, Value.slice a2 n2 c2, Value.slice a3 n3 c3] 48)).alloc (Obj.cells #[Value.int .i64 0, Value.int .i64 0, Value.slice none 0 0, Value.slice none 0 0] 58)).alloc (Obj.cells #[Value.int .i64 0, Value.int .i64 0, Value.slice none 0 0, Value.slice none 0 0] 58)).cell? ⟨w.heap.size + 1 + 1, 0, none⟩ = some (.int .i64 0) := by simp [go_sem]
  have p1 : (((w.alloc (Obj.cells #[Value.int .i64 x0, Value.int .i64 x1, Value.slice a2 n2 c2, Value.slice a3 n3 c3] 48)).alloc (Obj.cells #[Value.int .i64 0, Value.int .i64 0, Value.slice none 0 0, Value.slice none 0 0] 58)).alloc (Obj.cells #[Value.int .i64 0, Value.int .i64 0, Value.slice none 0 0, Value.slice none 0 0] 58)).cell? ⟨w.heap.size + 1 + 1, 1, none⟩ = some (.int .i64 0) := by simp [go_sem]
  have p2 : (((w.alloc (Obj.cells #[Value.int .i64 x0, Value.int .i64 x1, Value.slice a2 n2 c2, Value.slice a3 n3 c3] 48)).alloc (Obj.cells #[Value.int .i64 0, Value.int .i64 0, Value.slice none 0 0, Value.slice none 0 0] 58)).alloc (Obj.cells #[Value.int .i64 0, Value.int .i64 0, Value.slice none 0 0, Value.slice none 0 0] 58)).cell? ⟨w.heap.size + 1 + 1, 2, none⟩ = some (.slice none 0 0) := by simp [go_sem]
  have p3 : (((w.alloc (Obj.cells #[Value.int .i64 x0, Value.int .i64 x1, Value.slice a2 n2 c2, Value.slice a3 n3 c3] 48)).alloc (Obj.cells #[Value.int .i64 0, Value.int .i64 0, Value.slice none 0 0, Value.slice none 0 0] 58)).alloc (Obj.cells #[Value.int .i64 0, Value.int .i64 0, Value.slice none 0 0, Value.slice none 0 0] 58)).cell? ⟨w.heap.size + 1 + 1, 3, none⟩ = some (.slice none 0 0) := by simp [go_sem]
  have fr : ∀ q, (((w.alloc (Obj.cells #[Value.int .i64 x0, Value.int .i64 x1, Value.slice a2 n2 c2, Value.slice a3 n3 c3] 48)).alloc (Obj.cells #[Value.int .i64 0, Value.int .i64 0, Value.slice none 0 0, Value.slice none 0 0] 58)).alloc (Obj.cells #[Value.int .i64 0, Value.int .i64 0, Value.slice none 0 0, Value.slice none 0 0] 58)).frozen? ⟨w.heap.size + 1, q, none⟩ = false := fun q => by simp [go_sem]
  have fp : ∀ q, (((w.alloc (Obj.cells #[Value.int .i64 x0, Value.int .i64 x1, Value.slice a2 n2 c2, Value.slice a3 n3 c3] 48)).alloc (Obj.cells #[Value.int .i64 0, Value.int .i64 0, Value.slice none 0 0, Value.slice none 0 0] 58)).alloc (Obj.cells #[Value.int .i64 0, Value.int .i64 0, Value.slice none 0 0, Value.slice none 0 0] 58)).frozen? ⟨w.heap.size + 1 + 1, q, none⟩ = false := fun q => by simp [go_sem]
  have sz0 : (((w.alloc (Obj.cells #[Value.int .i64 x0, Value.int .i64 x1, Value.slice a2 n2 c2, Value.slice a3 n3 c3] 48)).alloc (Obj.cells #[Value.int .i64 0, Value.int .i64 0, Value.slice none 0 0, Value.slice none 0 0] 58)).alloc (Obj.cells #[Value.int .i64 0, Value.int .i64 0, Value.slice none 0 0, Value.slice none 0 0] 58)).heap.size = w.heap.size + 1 + 1 + 1 := by simp only [World.size_alloc]
  go_enter Try.func26, Try.ntmps26
  go_wp2_with fail
  generalize (((w.alloc (Obj.cells #[Value.int .i64 x0, Value.int .i64 x1, Value.slice a2 n2 c2, Value.slice a3 n3 c3] 48)).alloc (Obj.cells #[Value.int .i64 0, Value.int .i64 0, Value.slice none 0 0, Value.slice none 0 0] 58)).alloc (Obj.cells #[Value.int .i64 0, Value.int .i64 0, Value.slice none 0 0, Value.slice none 0 0] 58)) = u0 at *
  refine (toSegmentC x0 x1 a2 n2 c2 z2 B _ (h2.mk M hB (.inr (Nat.le_refl _))) (Nat.le_trans hB M.size) hn2).mono ?_
  rintro e w1 ⟨b2, rfl, o2, g2, m1⟩
  have zt1 := m1.size
  replace k3 := m1.cellAt k3
  clear k0
  clear k1
  clear k2
  replace r0 := m1.cellAt r0
  replace r1 := m1.cellAt r1
  replace r2 := m1.cellAt r2
  replace r3 := m1.cellAt r3
  replace p0 := m1.cellAt p0
  replace p1 := m1.cellAt p1
  replace p2 := m1.cellAt p2
  replace p3 := m1.cellAt p3
  replace fr := fun q => (m1.frozen (b := w.heap.size + 1) (o := q) (by omega) (.inr (Nat.zero_le _))).trans (fr q)
  replace fp := fun q => (m1.frozen (b := w.heap.size + 1 + 1) (o := q) (by omega) (.inr (Nat.zero_le _))).trans (fp q)
  replace M := M.trans m1
  clear m1
  go_wp2_with fail
  replace p0 := World.cell?_setCell_same _ _ (.int .i64 x0) p0
  replace p1 := cell_set p1 ⟨w.heap.size + 1 + 1, 0, none⟩ (.int .i64 x0) (.inr (by simp))
  replace p2 := cell_set p2 ⟨w.heap.size + 1 + 1, 0, none⟩ (.int .i64 x0) (.inr (by simp))
  replace p3 := cell_set p3 ⟨w.heap.size + 1 + 1, 0, none⟩ (.int .i64 x0) (.inr (by simp))
  replace r0 := cell_set r0 ⟨w.heap.size + 1 + 1, 0, none⟩ (.int .i64 x0) (.inl (show w.heap.size + 1 + 1 ≠ w.heap.size + 1 from by omega))
  replace r1 := cell_set r1 ⟨w.heap.size + 1 + 1, 0, none⟩ (.int .i64 x0) (.inl (show w.heap.size + 1 + 1 ≠ w.heap.size + 1 from by omega))
  replace r2 := cell_set r2 ⟨w.heap.size + 1 + 1, 0, none⟩ (.int .i64 x0) (.inl (show w.heap.size + 1 + 1 ≠ w.heap.size + 1 from by omega))
  replace r3 := cell_set r3 ⟨w.heap.size + 1 + 1, 0, none⟩ (.int .i64 x0) (.inl (show w.heap.size + 1 + 1 ≠ w.heap.size + 1 from by omega))
  replace k3 := cell_set k3 ⟨w.heap.size + 1 + 1, 0, none⟩ (.int .i64 x0) (.inl (show w.heap.size + 1 + 1 ≠ w.heap.size from by omega))
  replace fr := fun q => frozen_set (fr q) ⟨w.heap.size + 1 + 1, 0, none⟩ (.int .i64 x0)
  replace fp := fun q => frozen_set (fp q) ⟨w.heap.size + 1 + 1, 0, none⟩ (.int .i64 x0)
  replace o2 := o2.set ⟨w.heap.size + 1 + 1, 0, none⟩ (.int .i64 x0) (.inl (show w.heap.size + 1 + 1 < _ from by omega))
  replace M := M.put ⟨w.heap.size + 1 + 1, 0, none⟩ (.int .i64 x0) (show w.heap.size ≤ w.heap.size + 1 + 1 from by omega)
  replace p0 := cell_set p0 ⟨w.heap.size + 1 + 1, 1, none⟩ (.int .i64 x1) (.inr (by simp))
  replace p1 := World.cell?_setCell_same _ _ (.int .i64 x1) p1
  replace p2 := cell_set p2 ⟨w.heap.size + 1 + 1, 1, none⟩ (.int .i64 x1) (.inr (by simp))
  replace p3 := cell_set p3 ⟨w.heap.size + 1 + 1, 1, none⟩ (.int .i64 x1) (.inr (by simp))
  replace r0 := cell_set r0 ⟨w.heap.size + 1 + 1, 1, none⟩ (.int .i64 x1) (.inl (show w.heap.size + 1 + 1 ≠ w.heap.size + 1 from by omega))
  replace r1 := cell_set r1 ⟨w.heap.size + 1 + 1, 1, none⟩ (.int .i64 x1) (.inl (show w.heap.size + 1 + 1 ≠ w.heap.size + 1 from by omega))
  replace r2 := cell_set r2 ⟨w.heap.size + 1 + 1, 1, none⟩ (.int .i64 x1) (.inl (show w.heap.size + 1 + 1 ≠ w.heap.size + 1 from by omega))
  replace r3 := cell_set r3 ⟨w.heap.size + 1 + 1, 1, none⟩ (.int .i64 x1) (.inl (show w.heap.size + 1 + 1 ≠ w.heap.size + 1 from by omega))
  replace k3 := cell_set k3 ⟨w.heap.size + 1 + 1, 1, none⟩ (.int .i64 x1) (.inl (show w.heap.size + 1 + 1 ≠ w.heap.size from by omega))
  replace fr := fun q => frozen_set (fr q) ⟨w.heap.size + 1 + 1, 1, none⟩ (.int .i64 x1)
  replace fp := fun q => frozen_set (fp q) ⟨w.heap.size + 1 + 1, 1, none⟩ (.int .i64 x1)
  replace o2 := o2.set ⟨w.heap.size + 1 + 1, 1, none⟩ (.int .i64 x1) (.inl (show w.heap.size + 1 + 1 < _ from by omega))
  replace M := M.put ⟨w.heap.size + 1 + 1, 1, none⟩ (.int .i64 x1) (show w.heap.size ≤ w.heap.size + 1 + 1 from by omega)
  replace p0 := cell_set p0 ⟨w.heap.size + 1 + 1, 2, none⟩ (.slice (some ⟨b2, 0, none⟩) n2 n2) (.inr (by simp))
  replace p1 := cell_set p1 ⟨w.heap.size + 1 + 1, 2, none⟩ (.slice (some ⟨b2, 0, none⟩) n2 n2) (.inr (by simp))
  replace p2 := World.cell?_setCell_same _ _ (.slice (some ⟨b2, 0, none⟩) n2 n2) p2
  replace p3 := cell_set p3 ⟨w.heap.size + 1 + 1, 2, none⟩ (.slice (some ⟨b2, 0, none⟩) n2 n2) (.inr (by simp))
  replace r0 := cell_set r0 ⟨w.heap.size + 1 + 1, 2, none⟩ (.slice (some ⟨b2, 0, none⟩) n2 n2) (.inl (show w.heap.size + 1 + 1 ≠ w.heap.size + 1 from by omega))
  replace r1 := cell_set r1 ⟨w.heap.size + 1 + 1, 2, none⟩ (.slice (some ⟨b2, 0, none⟩) n2 n2) (.inl (show w.heap.size + 1 + 1 ≠ w.heap.size + 1 from by omega))
  replace r2 := cell_set r2 ⟨w.heap.size + 1 + 1, 2, none⟩ (.slice (some ⟨b2, 0, none⟩) n2 n2) (.inl (show w.heap.size + 1 + 1 ≠ w.heap.size + 1 from by omega))
  replace r3 := cell_set r3 ⟨w.heap.size + 1 + 1, 2, none⟩ (.slice (some ⟨b2, 0, none⟩) n2 n2) (.inl (show w.heap.size + 1 + 1 ≠ w.heap.size + 1 from by omega))
  replace k3 := cell_set k3 ⟨w.heap.size + 1 + 1, 2, none⟩ (.slice (some ⟨b2, 0, none⟩) n2 n2) (.inl (show w.heap.size + 1 + 1 ≠ w.heap.size from by omega))
  replace fr := fun q => frozen_set (fr q) ⟨w.heap.size + 1 + 1, 2, none⟩ (.slice (some ⟨b2, 0, none⟩) n2 n2)
  replace fp := fun q => frozen_set (fp q) ⟨w.heap.size + 1 + 1, 2, none⟩ (.slice (some ⟨b2, 0, none⟩) n2 n2)
  replace o2 := o2.set ⟨w.heap.size + 1 + 1, 2, none⟩ (.slice (some ⟨b2, 0, none⟩) n2 n2) (.inl (show w.heap.size + 1 + 1 < _ from by omega))
  replace M := M.put ⟨w.heap.size + 1 + 1, 2, none⟩ (.slice (some ⟨b2, 0, none⟩) n2 n2) (show w.heap.size ≤ w.heap.size + 1 + 1 from by omega)
  have zu1 : (((w1.setCell ⟨w.heap.size + 1 + 1, 0, none⟩ (.int .i64 x0)).setCell ⟨w.heap.size + 1 + 1, 1, none⟩ (.int .i64 x1)).setCell ⟨w.heap.size + 1 + 1, 2, none⟩ (.slice (some ⟨b2, 0, none⟩) n2 n2)).heap.size = w1.heap.size := by simp [World.setCell]
  generalize (((w1.setCell ⟨w.heap.size + 1 + 1, 0, none⟩ (.int .i64 x0)).setCell ⟨w.heap.size + 1 + 1, 1, none⟩ (.int .i64 x1)).setCell ⟨w.heap.size + 1 + 1, 2, none⟩ (.slice (some ⟨b2, 0, none⟩) n2 n2)) = u1 at *
  refine (toIntS a3 n3 c3 B z3 _ (h3.mk M hB (.inr (Nat.le_refl _))) (Nat.le_trans hB M.size) hn3).mono ?_
  rintro e w2 ⟨b3, rfl, o3, m2⟩
  have zt2 := m2.size
  clear k3
  replace r0 := m2.cellAt r0
  replace r1 := m2.cellAt r1
  replace r2 := m2.cellAt r2
  replace r3 := m2.cellAt r3
  replace p0 := m2.cellAt p0
  replace p1 := m2.cellAt p1
  replace p2 := m2.cellAt p2
  replace p3 := m2.cellAt p3
  replace fr := fun q => (m2.frozen (b := w.heap.size + 1) (o := q) (by omega) (.inr (Nat.zero_le _))).trans (fr q)
  replace fp := fun q => (m2.frozen (b := w.heap.size + 1 + 1) (o := q) (by omega) (.inr (Nat.zero_le _))).trans (fp q)
  replace o2 := o2.mk m2 (by omega) (.inr (.inr (Nat.le_refl _)))
  replace M := M.trans m2
  clear m2
  go_wp2_with fail
  replace p0 := cell_set p0 ⟨w.heap.size + 1 + 1, 3, none⟩ (.slice (some ⟨b3, 0, none⟩) n3 n3) (.inr (by simp))
  replace p1 := cell_set p1 ⟨w.heap.size + 1 + 1, 3, none⟩ (.slice (some ⟨b3, 0, none⟩) n3 n3) (.inr (by simp))
  replace p2 := cell_set p2 ⟨w.heap.size + 1 + 1, 3, none⟩ (.slice (some ⟨b3, 0, none⟩) n3 n3) (.inr (by simp))
  replace p3 := World.cell?_setCell_same _ _ (.slice (some ⟨b3, 0, none⟩) n3 n3) p3
  replace r0 := cell_set r0 ⟨w.heap.size + 1 + 1, 3, none⟩ (.slice (some ⟨b3, 0, none⟩) n3 n3) (.inl (show w.heap.size + 1 + 1 ≠ w.heap.size + 1 from by omega))
  replace r1 := cell_set r1 ⟨w.heap.size + 1 + 1, 3, none⟩ (.slice (some ⟨b3, 0, none⟩) n3 n3) (.inl (show w.heap.size + 1 + 1 ≠ w.heap.size + 1 from by omega))
  replace r2 := cell_set r2 ⟨w.heap.size + 1 + 1, 3, none⟩ (.slice (some ⟨b3, 0, none⟩) n3 n3) (.inl (show w.heap.size + 1 + 1 ≠ w.heap.size + 1 from by omega))
  replace r3 := cell_set r3 ⟨w.heap.size + 1 + 1, 3, none⟩ (.slice (some ⟨b3, 0, none⟩) n3 n3) (.inl (show w.heap.size + 1 + 1 ≠ w.heap.size + 1 from by omega))
  replace fr := fun q => frozen_set (fr q) ⟨w.heap.size + 1 + 1, 3, none⟩ (.slice (some ⟨b3, 0, none⟩) n3 n3)
  replace fp := fun q => frozen_set (fp q) ⟨w.heap.size + 1 + 1, 3, none⟩ (.slice (some ⟨b3, 0, none⟩) n3 n3)
  replace o2 := o2.set ⟨w.heap.size + 1 + 1, 3, none⟩ (.slice (some ⟨b3, 0, none⟩) n3 n3) (.inl (show w.heap.size + 1 + 1 < _ from by omega))
  replace o3 := o3.set ⟨w.heap.size + 1 + 1, 3, none⟩ (.slice (some ⟨b3, 0, none⟩) n3 n3) (.inl (show w.heap.size + 1 + 1 < _ from by omega))
  replace M := M.put ⟨w.heap.size + 1 + 1, 3, none⟩ (.slice (some ⟨b3, 0, none⟩) n3 n3) (show w.heap.size ≤ w.heap.size + 1 + 1 from by omega)
  replace r0 := World.cell?_setCell_same _ _ (.int .i64 x0) r0
  replace r1 := cell_set r1 ⟨w.heap.size + 1, 0, none⟩ (.int .i64 x0) (.inr (by simp))
  replace r2 := cell_set r2 ⟨w.heap.size + 1, 0, none⟩ (.int .i64 x0) (.inr (by simp))
  replace r3 := cell_set r3 ⟨w.heap.size + 1, 0, none⟩ (.int .i64 x0) (.inr (by simp))
  replace o2 := o2.set ⟨w.heap.size + 1, 0, none⟩ (.int .i64 x0) (.inl (show w.heap.size + 1 < _ from by omega))
  replace o3 := o3.set ⟨w.heap.size + 1, 0, none⟩ (.int .i64 x0) (.inl (show w.heap.size + 1 < _ from by omega))
  replace M := M.put ⟨w.heap.size + 1, 0, none⟩ (.int .i64 x0) (show w.heap.size ≤ w.heap.size + 1 from by omega)
  replace r0 := cell_set r0 ⟨w.heap.size + 1, 1, none⟩ (.int .i64 x1) (.inr (by simp))
  replace r1 := World.cell?_setCell_same _ _ (.int .i64 x1) r1
  replace r2 := cell_set r2 ⟨w.heap.size + 1, 1, none⟩ (.int .i64 x1) (.inr (by simp))
  replace r3 := cell_set r3 ⟨w.heap.size + 1, 1, none⟩ (.int .i64 x1) (.inr (by simp))
  replace o2 := o2.set ⟨w.heap.size + 1, 1, none⟩ (.int .i64 x1) (.inl (show w.heap.size + 1 < _ from by omega))
  replace o3 := o3.set ⟨w.heap.size + 1, 1, none⟩ (.int .i64 x1) (.inl (show w.heap.size + 1 < _ from by omega))
  replace M := M.put ⟨w.heap.size + 1, 1, none⟩ (.int .i64 x1) (show w.heap.size ≤ w.heap.size + 1 from by omega)
  replace r0 := cell_set r0 ⟨w.heap.size + 1, 2, none⟩ (.slice (some ⟨b2, 0, none⟩) n2 n2) (.inr (by simp))
  replace r1 := cell_set r1 ⟨w.heap.size + 1, 2, none⟩ (.slice (some ⟨b2, 0, none⟩) n2 n2) (.inr (by simp))
  replace r2 := World.cell?_setCell_same _ _ (.slice (some ⟨b2, 0, none⟩) n2 n2) r2
  replace r3 := cell_set r3 ⟨w.heap.size + 1, 2, none⟩ (.slice (some ⟨b2, 0, none⟩) n2 n2) (.inr (by simp))
  replace o2 := o2.set ⟨w.heap.size + 1, 2, none⟩ (.slice (some ⟨b2, 0, none⟩) n2 n2) (.inl (show w.heap.size + 1 < _ from by omega))
  replace o3 := o3.set ⟨w.heap.size + 1, 2, none⟩ (.slice (some ⟨b2, 0, none⟩) n2 n2) (.inl (show w.heap.size + 1 < _ from by omega))
  replace M := M.put ⟨w.heap.size + 1, 2, none⟩ (.slice (some ⟨b2, 0, none⟩) n2 n2) (show w.heap.size ≤ w.heap.size + 1 from by omega)
  replace r0 := cell_set r0 ⟨w.heap.size + 1, 3, none⟩ (.slice (some ⟨b3, 0, none⟩) n3 n3) (.inr (by simp))
  replace r1 := cell_set r1 ⟨w.heap.size + 1, 3, none⟩ (.slice (some ⟨b3, 0, none⟩) n3 n3) (.inr (by simp))
  replace r2 := cell_set r2 ⟨w.heap.size + 1, 3, none⟩ (.slice (some ⟨b3, 0, none⟩) n3 n3) (.inr (by simp))
  replace r3 := World.cell?_setCell_same _ _ (.slice (some ⟨b3, 0, none⟩) n3 n3) r3
  replace o2 := o2.set ⟨w.heap.size + 1, 3, none⟩ (.slice (some ⟨b3, 0, none⟩) n3 n3) (.inl (show w.heap.size + 1 < _ from by omega))
  replace o3 := o3.set ⟨w.heap.size + 1, 3, none⟩ (.slice (some ⟨b3, 0, none⟩) n3 n3) (.inl (show w.heap.size + 1 < _ from by omega))
  replace M := M.put ⟨w.heap.size + 1, 3, none⟩ (.slice (some ⟨b3, 0, none⟩) n3 n3) (show w.heap.size ≤ w.heap.size + 1 from by omega)
  clear p0 p1 p2 p3 fr fp
  have zF : (((((w2.setCell ⟨w.heap.size + 1 + 1, 3, none⟩ (.slice (some ⟨b3, 0, none⟩) n3 n3)).setCell ⟨w.heap.size + 1, 0, none⟩ (.int .i64 x0)).setCell ⟨w.heap.size + 1, 1, none⟩ (.int .i64 x1)).setCell ⟨w.heap.size + 1, 2, none⟩ (.slice (some ⟨b2, 0, none⟩) n2 n2)).setCell ⟨w.heap.size + 1, 3, none⟩ (.slice (some ⟨b3, 0, none⟩) n3 n3)).heap.size = w2.heap.size := by simp [World.setCell]
  generalize (((((w2.setCell ⟨w.heap.size + 1 + 1, 3, none⟩ (.slice (some ⟨b3, 0, none⟩) n3 n3)).setCell ⟨w.heap.size + 1, 0, none⟩ (.int .i64 x0)).setCell ⟨w.heap.size + 1, 1, none⟩ (.int .i64 x1)).setCell ⟨w.heap.size + 1, 2, none⟩ (.slice (some ⟨b2, 0, none⟩) n2 n2)).setCell ⟨w.heap.size + 1, 3, none⟩ (.slice (some ⟨b3, 0, none⟩) n3 n3)) = WF at *
  refine bodyPost_ret (v := .agg #[.int .i64 x0, .int .i64 x1, .slice (some ⟨b2, 0, none⟩) n2 n2, .slice (some ⟨b3, 0, none⟩) n3 n3]) (by simp [results, Try.results26, go_sem, r0, r1, r2, r3]) rfl ⟨b2, b3, u1.heap.size, rfl, ?_, ?_, ?_, ?_, M⟩
  · exact o2.wide (by omega) (by omega)
  · exact o3.wide (by omega) (by omega)
  · omega
  · omega

set_option maxRecDepth 100000 in
set_option maxHeartbeats 4000000 in
theorem eqSignedSegmentC (x0 : Int) (x1 : Int) (a2 a2' : Option Addr) (n2 c2 c2' : Nat) (z2 : List THop) (a3 a3' : Option Addr) (n3 c3 c3' : Nat) (z3 : List TInt) (B B' : Nat) (w : World) (h2 : HasHop w B a2 n2 z2) (h3 : HasInt w B a3 n3 z3) (h2' : HasHop w B' a2' n2 z2) (h3' : HasInt w B' a3' n3 z3) (hB : B ≤ w.heap.size) (hB' : B' ≤ w.heap.size) (hn2 : n2 ≤ 1048576) (hn3 : n3 ≤ 1048576) :
    Calls Try.prog 29 #[.agg #[.int .i64 x0, .int .i64 x1, .slice a2 n2 c2, .slice a3 n3 c3], .agg #[.int .i64 x0, .int .i64 x1, .slice a2' n2 c2', .slice a3' n3 c3']] w fun e w' => e = .returned (.bool true) ∧ Mk0 w w' := by
  have M := (Mk.alloc w (Obj.cells #[Value.int .i64 x0, Value.int .i64 x1, Value.slice a2 n2 c2, Value.slice a3 n3 c3] 58)).new (Obj.cells #[Value.int .i64 x0, Value.int .i64 x1, Value.slice a2' n2 c2', Value.slice a3' n3 c3'] 58)
  have k0 : ((w.alloc (Obj.cells #[Value.int .i64 x0, Value.int .i64 x1, Value.slice a2 n2 c2, Value.slice a3 n3 c3] 58)).alloc (Obj.cells #[Value.int .i64 x0, Value.int .i64 x1, Value.slice a2' n2 c2', Value.slice a3' n3 c3'] 58)).cell? ⟨w.heap.size, 0, none⟩ = some (.int .i64 x0) := by simp [go_sem]
  have k1 : ((w.alloc (Obj.cells #[Value.int .i64 x0, Value.int .i64 x1, Value.slice a2 n2 c2, Value.slice a3 n3 c3] 58)).alloc (Obj.cells #[Value.int .i64 x0, Value.int .i64 x1, Value.slice a2' n2 c2', Value.slice a3' n3 c3'] 58)).cell? ⟨w.heap.size, 1, none⟩ = some (.int .i64 x1) := by simp [go_sem]
  have k2 : ((w.alloc (Obj.cells #[Value.int .i64 x0, Value.int .i64 x1, Value.slice a2 n2 c2, Value.slice a3 n3 c3] 58)).alloc (Obj.cells #[Value.int .i64 x0, Value.int .i64 x1, Value.slice a2' n2 c2', Value.slice a3' n3 c3'] 58)).cell? ⟨w.heap.size, 2, none⟩ = some (.slice a2 n2 c2) := by simp [go_sem]
  have k3 : ((w.alloc (Obj.cells #[Value.int .i64 x0, Value.int .i64 x1, Value.slice a2 n2 c2, Value.slice a3 n3 c3] 58)).alloc (Obj.cells #[Value.int .i64 x0, Value.int .i64 x1, Value.slice a2' n2 c2', Value.slice a3' n3 c3'] 58)).cell? ⟨w.heap.size, 3, none⟩ = some (.slice a3 n3 c3) := by simp [go_sem]
  have s0 : ((w.alloc (Obj.cells #[Value.int .i64 x0, Value.int .i64 x1, Value.slice a2 n2 c2, Value.slice a3 n3 c3] 58)).alloc (Obj.cells #[Value.int .i64 x0, Value.int .i64 x1, Value.slice a2' n2 c2', Value.slice a3' n3 c3'] 58)).cell? ⟨w.heap.size + 1, 0, none⟩ = some (.int .i64 x0) := by simp [go_sem]
  have s1 : ((w.alloc (Obj.cells #[Value.int .i64 x0, Value.int .i64 x1, Value.slice a2 n2 c2, Value.slice a3 n3 c3] 58)).alloc (Obj.cells #[Value.int .i64 x0, Value.int .i64 x1, Value.slice a2' n2 c2', Value.slice a3' n3 c3'] 58)).cell? ⟨w.heap.size + 1, 1, none⟩ = some (.int .i64 x1) := by simp [go_sem]
  have s2 : ((w.alloc (Obj.cells #[Value.int .i64 x0, Value.int .i64 x1, Value.slice a2 n2 c2, Value.slice a3 n3 c3] 58)).alloc (Obj.cells #[Value.int .i64 x0, Value.int .i64 x1, Value.slice a2' n2 c2', Value.slice a3' n3 c3'] 58)).cell? ⟨w.heap.size + 1, 2, none⟩ = some (.slice a2' n2 c2') := by simp [go_sem]
  have s3 : ((w.alloc (Obj.cells #[Value.int .i64 x0, Value.int .i64 x1, Value.slice a2 n2 c2, Value.slice a3 n3 c3] 58)).alloc (Obj.cells #[Value.int .i64 x0, Value.int .i64 x1, Value.slice a2' n2 c2', Value.slice a3' n3 c3'] 58)).cell? ⟨w.heap.size + 1, 3, none⟩ = some (.slice a3' n3 c3') := by simp [go_sem]
  go_enter Try.func29, Try.ntmps29
  go_wp2_with fail
  generalize ((w.alloc (Obj.cells #[Value.int .i64 x0, Value.int .i64 x1, Value.slice a2 n2 c2, Value.slice a3 n3 c3] 58)).alloc (Obj.cells #[Value.int .i64 x0, Value.int .i64 x1, Value.slice a2' n2 c2', Value.slice a3' n3 c3'] 58)) = u0 at *
  refine (eqSegmentC x0 x1 a2 a2' n2 c2 c2' z2 B B' _ (h2.mk M hB (.inr (Nat.le_refl _))) (h2'.mk M hB' (.inr (Nat.le_refl _))) (Nat.le_trans hB M.size) (Nat.le_trans hB' M.size) (by omega)).mono ?_
  rintro e w1 ⟨rfl, m1⟩
  replace k3 := m1.cellAt k3
  replace s3 := m1.cellAt s3
  clear k0 s0
  clear k1 s1
  clear k2 s2
  replace M := M.trans m1
  go_wp2_with fail
  refine (eqIntS a3 a3' n3 c3 c3' B B' z3 _ (h3.mk M hB (.inr (Nat.le_refl _))) (h3'.mk M hB' (.inr (Nat.le_refl _))) (Nat.le_trans hB M.size) (Nat.le_trans hB' M.size) (by omega)).mono ?_
  rintro e w2 ⟨rfl, m2⟩
  clear k3 s3
  replace M := M.trans m2
  go_wp2_with fail
  go_ret
  exact ⟨rfl, M⟩

set_option maxRecDepth 100000 in
set_option maxHeartbeats 4000000 in
theorem szSignedSegmentC (x0 : Int) (x1 : Int) (a2 : Option Addr) (n2 c2 : Nat) (a3 : Option Addr) (n3 c3 : Nat) (l : Int) (w : World) (hq0 : 0 ≤ l) (hq1 : l ≤ 1048576) (hn : (n2 : Int) + (n3 : Int) ≤ l) :
    Calls Try.prog 23 #[.agg #[.int .i64 x0, .int .i64 x1, .slice a2 n2 c2, .slice a3 n3 c3], .int .i64 l] w fun e w' => ∃ l' : Int, l' = (l - (n2 : Int)) - (n3 : Int) ∧ e = .returned (.int .i64 l') ∧ Mk0 w w' := by
  have M := Mk.alloc w (Obj.cells #[Value.int .i64 x0, Value.int .i64 x1, Value.slice a2 n2 c2, Value.slice a3 n3 c3] 48)
  have k0 : (w.alloc (Obj.cells #[Value.int .i64 x0, Value.int .i64 x1, Value.slice a2 n2 c2, Value.slice a3 n3 c3] 48)).cell? ⟨w.heap.size, 0, none⟩ = some (.int .i64 x0) := by simp [go_sem]
  have k1 : (w.alloc (Obj.cells #[Value.int .i64 x0, Value.int .i64 x1, Value.slice a2 n2 c2, Value.slice a3 n3 c3] 48)).cell? ⟨w.heap.size, 1, none⟩ = some (.int .i64 x1) := by simp [go_sem]
  have k2 : (w.alloc (Obj.cells #[Value.int .i64 x0, Value.int .i64 x1, Value.slice a2 n2 c2, Value.slice a3 n3 c3] 48)).cell? ⟨w.heap.size, 2, none⟩ = some (.slice a2 n2 c2) := by simp [go_sem]
  have k3 : (w.alloc (Obj.cells #[Value.int .i64 x0, Value.int .i64 x1, Value.slice a2 n2 c2, Value.slice a3 n3 c3] 48)).cell? ⟨w.heap.size, 3, none⟩ = some (.slice a3 n3 c3) := by simp [go_sem]
  go_enter Try.func23, Try.ntmps23
  go_wp2_with fail
  generalize w.alloc (Obj.cells #[Value.int .i64 x0, Value.int .i64 x1, Value.slice a2 n2 c2, Value.slice a3 n3 c3] 48) = u0 at *
  refine (szSegmentC x0 x1 a2 n2 c2 _ _ (by omega) (by omega) (by omega)).mono ?_
  rintro e w1 ⟨l1, hl1, rfl, m1⟩
  replace k3 := m1.cellAt k3
  replace M := M.trans m1
  go_wp2_with fail
  refine (szIntSC a3 n3 c3 _ _ (by omega) (by omega) (by omega)).mono ?_
  rintro e w2 ⟨rfl, rfl⟩
  go_wp2_with fail
  go_ret
  exact ⟨_, by omega, rfl, M⟩

set_option maxRecDepth 100000 in
set_option maxHeartbeats 4000000 in
theorem szSignedSegmentB (x0 : Int) (x1 : Int) (a2 : Option Addr) (n2 c2 : Nat) (a3 : Option Addr) (n3 c3 : Nat) (l : Int) (w : World) (hq0 : 0 ≤ l) (hq1 : l ≤ 1048576) (hn : l < (n2 : Int) + (n3 : Int)) (hm2 : n2 ≤ 9223372036854775807) (hm3 : n3 ≤ 9223372036854775807) :
    Calls Try.prog 23 #[.agg #[.int .i64 x0, .int .i64 x1, .slice a2 n2 c2, .slice a3 n3 c3], .int .i64 l] w fun e w' => e = .returned (.int .i64 (-1)) ∧ Mk0 w w' := by
  by_cases hp0 : l < (n2 : Int)
  · have M := Mk.alloc w (Obj.cells #[Value.int .i64 x0, Value.int .i64 x1, Value.slice a2 n2 c2, Value.slice a3 n3 c3] 48)
    have k0 : (w.alloc (Obj.cells #[Value.int .i64 x0, Value.int .i64 x1, Value.slice a2 n2 c2, Value.slice a3 n3 c3] 48)).cell? ⟨w.heap.size, 0, none⟩ = some (.int .i64 x0) := by simp [go_sem]
    have k1 : (w.alloc (Obj.cells #[Value.int .i64 x0, Value.int .i64 x1, Value.slice a2 n2 c2, Value.slice a3 n3 c3] 48)).cell? ⟨w.heap.size, 1, none⟩ = some (.int .i64 x1) := by simp [go_sem]
    have k2 : (w.alloc (Obj.cells #[Value.int .i64 x0, Value.int .i64 x1, Value.slice a2 n2 c2, Value.slice a3 n3 c3] 48)).cell? ⟨w.heap.size, 2, none⟩ = some (.slice a2 n2 c2) := by simp [go_sem]
    have k3 : (w.alloc (Obj.cells #[Value.int .i64 x0, Value.int .i64 x1, Value.slice a2 n2 c2, Value.slice a3 n3 c3] 48)).cell? ⟨w.heap.size, 3, none⟩ = some (.slice a3 n3 c3) := by simp [go_sem]
    go_enter Try.func23, Try.ntmps23
    go_wp2_with fail
    generalize w.alloc (Obj.cells #[Value.int .i64 x0, Value.int .i64 x1, Value.slice a2 n2 c2, Value.slice a3 n3 c3] 48) = u0 at *
    refine (szSegmentB x0 x1 a2 n2 c2 _ _ (by omega) (by omega) (by omega) hm2).mono ?_
    rintro e w1 ⟨rfl, m1⟩
    replace k3 := m1.cellAt k3
    replace M := M.trans m1
    go_wp2_with fail
    go_ret
    exact ⟨rfl, M⟩
  have M := Mk.alloc w (Obj.cells #[Value.int .i64 x0, Value.int .i64 x1, Value.slice a2 n2 c2, Value.slice a3 n3 c3] 48)
  have k0 : (w.alloc (Obj.cells #[Value.int .i64 x0, Value.int .i64 x1, Value.slice a2 n2 c2, Value.slice a3 n3 c3] 48)).cell? ⟨w.heap.size, 0, none⟩ = some (.int .i64 x0) := by simp [go_sem]
  have k1 : (w.alloc (Obj.cells #[Value.int .i64 x0, Value.int .i64 x1, Value.slice a2 n2 c2, Value.slice a3 n3 c3] 48)).cell? ⟨w.heap.size, 1, none⟩ = some (.int .i64 x1) := by simp [go_sem]
  have k2 : (w.alloc (Obj.cells #[Value.int .i64 x0, Value.int .i64 x1, Value.slice a2 n2 c2, Value.slice a3 n3 c3] 48)).cell? ⟨w.heap.size, 2, none⟩ = some (.slice a2 n2 c2) := by simp [go_sem]
  have k3 : (w.alloc (Obj.cells #[Value.int .i64 x0, Value.int .i64 x1, Value.slice a2 n2 c2, Value.slice a3 n3 c3] 48)).cell? ⟨w.heap.size, 3, none⟩ = some (.slice a3 n3 c3) := by simp [go_sem]
  go_enter Try.func23, Try.ntmps23
  go_wp2_with fail
  generalize w.alloc (Obj.cells #[Value.int .i64 x0, Value.int .i64 x1, Value.slice a2 n2 c2, Value.slice a3 n3 c3] 48) = u0 at *
  refine (szSegmentC x0 x1 a2 n2 c2 _ _ (by omega) (by omega) (by omega)).mono ?_
  rintro e w1 ⟨l1, hl1, rfl, m1⟩
  replace k3 := m1.cellAt k3
  replace M := M.trans m1
  go_wp2_with fail
  refine (szIntSB a3 n3 c3 _ _ (by omega) (by omega) (by omega) hm3).mono ?_
  rintro e w2 ⟨rfl, rfl⟩
  go_wp2_with fail
  go_ret
  exact ⟨rfl, M⟩

end Go.Proofs.Ytiphndgmgpiodaa
