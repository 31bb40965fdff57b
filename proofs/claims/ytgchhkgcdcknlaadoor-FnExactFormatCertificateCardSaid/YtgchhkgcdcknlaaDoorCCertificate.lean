
/- Certificate by value: the laws' copy, equality and size. -/
import Derived.Test.YtgchhkgcdcknlaaDoorSSignature
namespace Go.Proofs.YtgchhkgcdcknlaaDoor
open Go.ChangeShapes Go.WideShapes Go.ChangeAt Go.RowKit
set_option linter.unusedVariables false

set_option maxRecDepth 100000 in
set_option maxHeartbeats 4000000 in
theorem toCertificateV (x0 : Int) (x1 : Int) (x2 : Int) (x3 : Int) (x4 : Int) (x5 : Int) (x6 : Int) (w : World) :
    Calls Tryd.prog 14 #[.agg #[.int .i64 x0, .int .i64 x1, .int .i64 x2, .int .i64 x3, .int .i64 x4, .int .i64 x5, .int .i64 x6]] w fun e w' => e = .returned (.agg #[.int .i64 x0, .int .i64 x1, .int .i64 x2, .int .i64 x3, .int .i64 x4, .int .i64 x5, .int .i64 x6]) ∧ Mk0 w w' := by
  have M := ((Mk.alloc w (Obj.cells #[Value.int .i64 x0, Value.int .i64 x1, Value.int .i64 x2, Value.int .i64 x3, Value.int .i64 x4, Value.int .i64 x5, Value.int .i64 x6] 40)).new (Obj.cells #[Value.int .i64 0, Value.int .i64 0, Value.int .i64 0, Value.int .i64 0, Value.int .i64 0, Value.int .i64 0, Value.int .i64 0] 50)).new (Obj.cells #[Value.int .i64 x0, Value.int .i64 x1, Value.int .i64 x2, Value.int .i64 x3, Value.int .i64 x4, Value.int .i64 0, Value.int .i64 0] 50)
  have k5 : (((w.alloc (Obj.cells #[Value.int .i64 x0, Value.int .i64 x1, Value.int .i64 x2, Value.int .i64 x3, Value.int .i64 x4, Value.int .i64 x5, Value.int .i64 x6] 40)).alloc (Obj.cells #[Value.int .i64 0, Value.int .i64 0, Value.int .i64 0, Value.int .i64 0, Value.int .i64 0, Value.int .i64 0, Value.int .i64 0] 50)).alloc (Obj.cells #[Value.int .i64 x0, Value.int .i64 x1, Value.int .i64 x2, Value.int .i64 x3, Value.int .i64 x4, Value.int .i64 0, Value.int .i64 0] 50)).cell? ⟨w.heap.size, 5, none⟩ = some (.int .i64 x5) := by simp [go_sem]
  have k6 : (((w.alloc (Obj.cells #[Value.int .i64 x0, Value.int .i64 x1, Value.int .i64 x2, Value.int .i64 x3, Value.int .i64 x4, Value.int .i64 x5, Value.int .i64 x6] 40)).alloc (Obj.cells #[Value.int .i64 0, Value.int .i64 0, Value.int .i64 0, Value.int .i64 0, Value.int .i64 0, Value.int .i64 0, Value.int .i64 0] 50)).alloc (Obj.cells #[Value.int .i64 x0, Value.int .i64 x1, Value.int .i64 x2, Value.int .i64 x3, Value.int .i64 x4, Value.int .i64 0, Value.int .i64 0] 50)).cell? ⟨w.heap.size, 6, none⟩ = some (.int .i64 x6) := by simp [go_sem]
  have r0 : (((w.alloc (Obj.cells #[Value.int .i64 x0, Value.int .i64 x1, Value.int .i64 x2, Value.int .i64 x3, Value.int .i64 x4, Value.int .i64 x5, Value.int .i64 x6] 40)).alloc (Obj.cells #[Value.int .i64 0, Value.int .i64 0, Value.int .i64 0, Value.int .i64 0, Value.int .i64 0, Value.int .i64 0, Value.int .i64 0] 50)).alloc (Obj.cells #[Value.int .i64 x0, Value.int .i64 x1, Value.int .i64 x2, Value.int .i64 x3, Value.int .i64 x4, Value.int .i64 0, Value.int .i64 0] 50)).cell? ⟨w.heap.size + 1, 0, none⟩ = some (.int .i64 0) := by simp [go_sem]
  have r1 : (((w.alloc (Obj.cells #[Value.int .i64 x0, Value.int .i64 x1, Value.int .i64 x2, Value.int .i64 x3, Value.int .i64 x4, Value.int .i64 x5, Value.int .i64 x6] 40)).alloc (Obj.cells #[Value.int .i64 0, Value.int .i64 0, Value.int .i64 0, Value.int .i64 0, Value.int .i64 0, Value.int .i64 0, Value.int .i64 0] 50)).alloc (Obj.cells #[Value.int .i64 x0, Value.int .i64 x1, Value.int .i64 x2, Value.int .i64 x3, Value.int .i64 x4, Value.int .i64 0, Value.int .i64 0] 50)).cell? ⟨w.heap.size + 1, 1, none⟩ = some (.int .i64 0) := by simp [go_sem]
  have r2 : (((w.alloc (Obj.cells #[Value.int .i64 x0, Value.int .i64 x1, Value.int .i64 x2, Value.int .i64 x3, Value.int .i64 x4, Value.int .i64 x5, Value.int .i64 x6] 40)).alloc (Obj.cells #[Value.int .i64 0, Value.int .i64 0, Value.int .i64 0, Value.int .i64 0, Value.int .i64 0, Value.int .i64 0, Value.int .i64 0] 50)).alloc (Obj.cells #[Value.int .i64 x0, Value.int .i64 x1, Value.int .i64 x2, Value.int .i64 x3, Value.int .i64 x4, Value.int .i64 0, Value.int .i64 0] 50)).cell? ⟨w.heap.size + 1, 2, none⟩ = some (.int .i64 0) := by simp [go_sem]
  have r3 : (((w.alloc (Obj.cells #[Value.int .i64 x0, Value.int .i64 x1, Value.int .i64 x2, Value.int .i64 x3, Value.int .i64 x4, Value.int .i64 x5, Value.int .i64 x6] 40)).alloc (Obj.cells #[Value.int .i64 0, Value.int .i64 0, Value.int .i64 0, Value.int .i64 0, Value.int .i64 0, Value.int .i64 0, Value.int .i64 0] 50)).alloc (Obj.cells #[Value.int .i64 x0, Value.int .i64 x1, Value.int .i64 x2, Value.int .i64 x3, Value.int .i64 x4, Value.int .i64 0, Value.int .i64 0] 50)).cell? ⟨w.heap.size + 1, 3, none⟩ = some (.int .i64 0) := by simp [go_sem]
  have r4 : (((w.alloc (Obj.cells #[Value.int .i64 x0, Value.int .i64 x1, Value.int .i64 x2, Value.int .i64 x3, Value.int .i64 x4, Value.int .i64 x5, Value.int .i64 x6] 40)).alloc (Obj.cells #[Value.int .i64 0, Value.int .i64 0, Value.int .i64 0, Value.int .i64 0, Value.int .i64 0, Value.int .i64 0, Value.int .i64 0] 50)).alloc (Obj.cells #[Value.int .i64 x0, Value.int .i64 x1, Value.int .i64 x2, Value.int .i64 x3, Value.int .i64 x4, Value.int .i64 0, Value.int .i64 0] 50)).cell? ⟨w.heap.size + 1, 4, none⟩ = some (.int .i64 0) := by simp [go_sem]
  have r5 : (((w.alloc (Obj.cells #[Value.int .i64 x0, Value.int .i64 x1, Value.int .i64 x2, Value.int .i64 x3, Value.int .i64 x4, Value.int .i64 x5, Value.int .i64 x6] 40)).alloc (Obj.cells #[Value.int .i64 0, Value.int .i64 0, Value.int .i64 0, Value.int .i64 0, Value.int .i64 0, Value.int .i64 0, Value.int .i64 0] 50)).alloc (Obj.cells #[Value.int .i64 x0, Value.int .i64 x1, Value.int .i64 x2, Value.int .i64 x3, Value.int .i64 x4, Value.int .i64 0, Value.int .i64 0] 50)).cell? ⟨w.heap.size + 1, 5, none⟩ = some (.int .i64 0) := by simp [go_sem]
  have r6 : (((w.alloc (Obj.cells #[Value.int .i64 x0, Value.int .i64 x1, Value.int .i64 x2, Value.int .i64 x3, Value.int .i64 x4, Value.int .i64 x5, Value.int .i64 x6] 40)).alloc (Obj.cells #[Value.int .i64 0, Value.int .i64 0, Value.int .i64 0, Value.int .i64 0, Value.int .i64 0, Value.int .i64 0, Value.int .i64 0] 50)).alloc (Obj.cells #[Value.int .i64 x0, Value.int .i64 x1, Value.int .i64 x2, Value.int .i64 x3, Value.int .i64 x4, Value.int .i64 0, Value.int .i64 0] 50)).cell? ⟨w.heap.size + 1, 6, none⟩ = some (.int .i64 0) := by simp [go_sem]
  have p0 : (((w.alloc (Obj.cells #[Value.int .i64 x0, Value.int .i64 x1, Value.int .i64 x2, Value.int .i64 x3, Value.int .i64 x4, Value.int .i64 x5, Value.int .i64 x6] 40)).alloc (Obj.cells #[Value.int .i64 0, Value.int .i64 0, Value.int .i64 0, Value.int .i64 0, Value.int .i64 0, Value.int .i64 0, Value.int .i64 0] 50)).alloc (Obj.cells #[Value.int .i64 x0, Value.int .i64 x1, Value.int .i64 x2, Value.int .i64 x3, Value.int .i64 x4, Value.int .i64 0, Value.int .i64 0] 50)).cell? ⟨w.heap.size + 1 + 1, 0, none⟩ = some (.int .i64 x0) := by simp [go_sem]
  have p1 : (((w.alloc (Obj.cells #[Value.int .i64 x0, Value.int .i64 x1, Value.int .i64 x2, Value.int .i64 x3, Value.int .i64 x4, Value.int .i64 x5, Value.int .i64 x6] 40)).alloc (Obj.cells #[Value.int .i64 0, Value.int .i64 0, Value.int .i64 0, Value.int .i64 0, Value.int .i64 0, Value.int .i64 0, Value.int .i64 0] 50)).alloc (Obj.cells #[Value.int .i64 x0, Value.int .i64 x1, Value.int .i64 x2, Value.int .i64 x3, Value.int .i64 x4, Value.int .i64 0, Value.int .i64 0] 50)).cell? ⟨w.heap.size + 1 + 1, 1, none⟩ = some (.int .i64 x1) := by simp [go_sem]
  have p2 : (((w.alloc (Obj.cells #[Value.int .i64 x0, Value.int .i64 x1, Value.int .i64 x2, Value.int .i64 x3, Value.int .i64 x4, Value.int .i64 x5, Value.int .i64 x6] 40)).alloc (Obj.cells #[Value.int .i64 0, Value.int .i64 0, Value.int .i64 0, Value.int .i64 0, Value.int .i64 0, Value.int .i64 0, Value.int .i64 0] 50)).alloc (Obj.cells #[Value.int .i64 x0, Value.int .i64 x1, Value.int .i64 x2, Value.int .i64 x3, Value.int .i64 x4, Value.int .i64 0, Value.int .i64 0] 50)).cell? ⟨w.heap.size + 1 + 1, 2, none⟩ = some (.int .i64 x2) := by simp [go_sem]
  have p3 : (((w.alloc (Obj.cells #[Value.int .i64 x0, Value.int .i64 x1, Value.int .i64 x2, Value.int .i64 x3, Value.int .i64 x4, Value.int .i64 x5, Value.int .i64 x6] 40)).alloc (Obj.cells #[Value.int .i64 0, Value.int .i64 0, Value.int .i64 0, Value.int .i64 0, Value.int .i64 0, Value.int .i64 0, Value.int .i64 0] 50)).alloc (Obj.cells #[Value.int .i64 x0, Value.int .i64 x1, Value.int .i64 x2, Value.int .i64 x3, Value.int .i64 x4, Value.int .i64 0, Value.int .i64 0] 50)).cell? ⟨w.heap.size + 1 + 1, 3, none⟩ = some (.int .i64 x3) := by simp [go_sem]
  have p4 : (((w.alloc (Obj.cells #[Value.int .i64 x0, Value.int .i64 x1, Value.int .i64 x2, Value.int .i64 x3, Value.int .i64 x4, Value.int .i64 x5, Value.int .i64 x6] 40)).alloc (Obj.cells #[Value.int .i64 0, Value.int .i64 0, Value.int .i64 0, Value.int .i64 0, Value.int .i64 0, Value.int .i64 0, Value.int .i64 0] 50)).alloc (Obj.cells #[Value.int .i64 x0, Value.int .i64 x1, Value.int .i64 x2, Value.int .i64 x3, Value.int .i64 x4, Value.int .i64 0, Value.int .i64 0] 50)).cell? ⟨w.heap.size + 1 + 1, 4, none⟩ = some (.int .i64 x4) := by simp [go_sem]
  have p5 : (((w.alloc (Obj.cells #[Value.int .i64 x0, Value.int .i64 x1, Value.int .i64 x2, Value.int .i64 x3, Value.int .i64 x4, Value.int .i64 x5, Value.int .i64 x6] 40)).alloc (Obj.cells #[Value.int .i64 0, Value.int .i64 0, Value.int .i64 0, Value.int .i64 0, Value.int .i64 0, Value.int .i64 0, Value.int .i64 0] 50)).alloc (Obj.cells #[Value.int .i64 x0, Value.int .i64 x1, Value.int .i64 x2, Value.int .i64 x3, Value.int .i64 x4, Value.int .i64 0, Value.int .i64 0] 50)).cell? ⟨w.heap.size + 1 + 1, 5, none⟩ = some (.int .i64 0) := by simp [go_sem]
  have p6 : (((w.alloc (Obj.cells #[Value.int .i64 x0, Value.int .i64 x1, Value.int .i64 x2, Value.int .i64 x3, Value.int .i64 x4, Value.int .i64 x5, Value.int .i64 x6] 40)).alloc (Obj.cells #[Value.int .i64 0, Value.int .i64 0, Value.int .i64 0, Value.int .i64 0, Value.int .i64 0, Value.int .i64 0, Value.int .i64 0] 50)).alloc (Obj.cells #[Value.int .i64 x0, Value.int .i64 x1, Value.int .i64 x2, Value.int .i64 x3, Value.int .i64 x4, Value.int .i64 0, Value.int .i64 0] 50)).cell? ⟨w.heap.size + 1 + 1, 6, none⟩ = some (.int .i64 0) := by simp [go_sem]
  have fr : ∀ q, (((w.alloc (Obj.cells #[Value.int .i64 x0, Value.int .i64 x1, Value.int .i64 x2, Value.int .i64 x3, Value.int .i64 x4, Value.int .i64 x5, Value.int .i64 x6] 40)).alloc (Obj.cells #[Value.int .i64 0, Value.int .i64 0, Value.int .i64 0, Value.int .i64 0, Value.int .i64 0, Value.int .i64 0, Value.int .i64 0] 50)).alloc (Obj.cells #[Value.int .i64 x0, Value.int .i64 x1, Value.int .i64 x2, Value.int .i64 x3, Value.int .i64 x4, Value.int .i64 0, Value.int .i64 0] 50)).frozen? ⟨w.heap.size + 1, q, none⟩ = false := fun q => by simp [go_sem]
  have fp : ∀ q, (((w.alloc (Obj.cells #[Value.int .i64 x0, Value.int .i64 x1, Value.int .i64 x2, Value.int .i64 x3, Value.int .i64 x4, Value.int .i64 x5, Value.int .i64 x6] 40)).alloc (Obj.cells #[Value.int .i64 0, Value.int .i64 0, Value.int .i64 0, Value.int .i64 0, Value.int .i64 0, Value.int .i64 0, Value.int .i64 0] 50)).alloc (Obj.cells #[Value.int .i64 x0, Value.int .i64 x1, Value.int .i64 x2, Value.int .i64 x3, Value.int .i64 x4, Value.int .i64 0, Value.int .i64 0] 50)).frozen? ⟨w.heap.size + 1 + 1, q, none⟩ = false := fun q => by simp [go_sem]
  have sz0 : (((w.alloc (Obj.cells #[Value.int .i64 x0, Value.int .i64 x1, Value.int .i64 x2, Value.int .i64 x3, Value.int .i64 x4, Value.int .i64 x5, Value.int .i64 x6] 40)).alloc (Obj.cells #[Value.int .i64 0, Value.int .i64 0, Value.int .i64 0, Value.int .i64 0, Value.int .i64 0, Value.int .i64 0, Value.int .i64 0] 50)).alloc (Obj.cells #[Value.int .i64 x0, Value.int .i64 x1, Value.int .i64 x2, Value.int .i64 x3, Value.int .i64 x4, Value.int .i64 0, Value.int .i64 0] 50)).heap.size = w.heap.size + 1 + 1 + 1 := by simp only [World.size_alloc]
  go_enter Tryd.func14, Tryd.ntmps14
  go_wp2_with fail
  generalize (((w.alloc (Obj.cells #[Value.int .i64 x0, Value.int .i64 x1, Value.int .i64 x2, Value.int .i64 x3, Value.int .i64 x4, Value.int .i64 x5, Value.int .i64 x6] 40)).alloc (Obj.cells #[Value.int .i64 0, Value.int .i64 0, Value.int .i64 0, Value.int .i64 0, Value.int .i64 0, Value.int .i64 0, Value.int .i64 0] 50)).alloc (Obj.cells #[Value.int .i64 x0, Value.int .i64 x1, Value.int .i64 x2, Value.int .i64 x3, Value.int .i64 x4, Value.int .i64 0, Value.int .i64 0] 50)) = u0 at *
  refine (toSignatureV ⟨x5, x6⟩ _).mono ?_
  rintro e w1 ⟨rfl, m1⟩
  have zt1 := m1.size
  clear k5
  clear k6
  replace r0 := m1.cellAt r0
  replace r1 := m1.cellAt r1
  replace r2 := m1.cellAt r2
  replace r3 := m1.cellAt r3
  replace r4 := m1.cellAt r4
  replace r5 := m1.cellAt r5
  replace r6 := m1.cellAt r6
  replace p0 := m1.cellAt p0
  replace p1 := m1.cellAt p1
  replace p2 := m1.cellAt p2
  replace p3 := m1.cellAt p3
  replace p4 := m1.cellAt p4
  replace p5 := m1.cellAt p5
  replace p6 := m1.cellAt p6
  replace fr := fun q => (m1.frozen (b := w.heap.size + 1) (o := q) (by omega) (.inr (Nat.zero_le _))).trans (fr q)
  replace fp := fun q => (m1.frozen (b := w.heap.size + 1 + 1) (o := q) (by omega) (.inr (Nat.zero_le _))).trans (fp q)
  replace M := M.trans m1
  clear m1
  go_wp2_with fail
  replace p0 := cell_set p0 ⟨w.heap.size + 1 + 1, 5, none⟩ (.int .i64 x5) (.inr (by simp))
  replace p1 := cell_set p1 ⟨w.heap.size + 1 + 1, 5, none⟩ (.int .i64 x5) (.inr (by simp))
  replace p2 := cell_set p2 ⟨w.heap.size + 1 + 1, 5, none⟩ (.int .i64 x5) (.inr (by simp))
  replace p3 := cell_set p3 ⟨w.heap.size + 1 + 1, 5, none⟩ (.int .i64 x5) (.inr (by simp))
  replace p4 := cell_set p4 ⟨w.heap.size + 1 + 1, 5, none⟩ (.int .i64 x5) (.inr (by simp))
  replace p5 := World.cell?_setCell_same _ _ (.int .i64 x5) p5
  replace p6 := cell_set p6 ⟨w.heap.size + 1 + 1, 5, none⟩ (.int .i64 x5) (.inr (by simp))
  replace r0 := cell_set r0 ⟨w.heap.size + 1 + 1, 5, none⟩ (.int .i64 x5) (.inl (show w.heap.size + 1 + 1 ≠ w.heap.size + 1 from by omega))
  replace r1 := cell_set r1 ⟨w.heap.size + 1 + 1, 5, none⟩ (.int .i64 x5) (.inl (show w.heap.size + 1 + 1 ≠ w.heap.size + 1 from by omega))
  replace r2 := cell_set r2 ⟨w.heap.size + 1 + 1, 5, none⟩ (.int .i64 x5) (.inl (show w.heap.size + 1 + 1 ≠ w.heap.size + 1 from by omega))
  replace r3 := cell_set r3 ⟨w.heap.size + 1 + 1, 5, none⟩ (.int .i64 x5) (.inl (show w.heap.size + 1 + 1 ≠ w.heap.size + 1 from by omega))
  replace r4 := cell_set r4 ⟨w.heap.size + 1 + 1, 5, none⟩ (.int .i64 x5) (.inl (show w.heap.size + 1 + 1 ≠ w.heap.size + 1 from by omega))
  replace r5 := cell_set r5 ⟨w.heap.size + 1 + 1, 5, none⟩ (.int .i64 x5) (.inl (show w.heap.size + 1 + 1 ≠ w.heap.size + 1 from by omega))
  replace r6 := cell_set r6 ⟨w.heap.size + 1 + 1, 5, none⟩ (.int .i64 x5) (.inl (show w.heap.size + 1 + 1 ≠ w.heap.size + 1 from by omega))
  replace fr := fun q => frozen_set (fr q) ⟨w.heap.size + 1 + 1, 5, none⟩ (.int .i64 x5)
  replace fp := fun q => frozen_set (fp q) ⟨w.heap.size + 1 + 1, 5, none⟩ (.int .i64 x5)
  replace M := M.put ⟨w.heap.size + 1 + 1, 5, none⟩ (.int .i64 x5) (show w.heap.size ≤ w.heap.size + 1 + 1 from by omega)
  replace p0 := cell_set p0 ⟨w.heap.size + 1 + 1, 6, none⟩ (.int .i64 x6) (.inr (by simp))
  replace p1 := cell_set p1 ⟨w.heap.size + 1 + 1, 6, none⟩ (.int .i64 x6) (.inr (by simp))
  replace p2 := cell_set p2 ⟨w.heap.size + 1 + 1, 6, none⟩ (.int .i64 x6) (.inr (by simp))
  replace p3 := cell_set p3 ⟨w.heap.size + 1 + 1, 6, none⟩ (.int .i64 x6) (.inr (by simp))
  replace p4 := cell_set p4 ⟨w.heap.size + 1 + 1, 6, none⟩ (.int .i64 x6) (.inr (by simp))
  replace p5 := cell_set p5 ⟨w.heap.size + 1 + 1, 6, none⟩ (.int .i64 x6) (.inr (by simp))
  replace p6 := World.cell?_setCell_same _ _ (.int .i64 x6) p6
  replace r0 := cell_set r0 ⟨w.heap.size + 1 + 1, 6, none⟩ (.int .i64 x6) (.inl (show w.heap.size + 1 + 1 ≠ w.heap.size + 1 from by omega))
  replace r1 := cell_set r1 ⟨w.heap.size + 1 + 1, 6, none⟩ (.int .i64 x6) (.inl (show w.heap.size + 1 + 1 ≠ w.heap.size + 1 from by omega))
  replace r2 := cell_set r2 ⟨w.heap.size + 1 + 1, 6, none⟩ (.int .i64 x6) (.inl (show w.heap.size + 1 + 1 ≠ w.heap.size + 1 from by omega))
  replace r3 := cell_set r3 ⟨w.heap.size + 1 + 1, 6, none⟩ (.int .i64 x6) (.inl (show w.heap.size + 1 + 1 ≠ w.heap.size + 1 from by omega))
  replace r4 := cell_set r4 ⟨w.heap.size + 1 + 1, 6, none⟩ (.int .i64 x6) (.inl (show w.heap.size + 1 + 1 ≠ w.heap.size + 1 from by omega))
  replace r5 := cell_set r5 ⟨w.heap.size + 1 + 1, 6, none⟩ (.int .i64 x6) (.inl (show w.heap.size + 1 + 1 ≠ w.heap.size + 1 from by omega))
  replace r6 := cell_set r6 ⟨w.heap.size + 1 + 1, 6, none⟩ (.int .i64 x6) (.inl (show w.heap.size + 1 + 1 ≠ w.heap.size + 1 from by omega))
  replace fr := fun q => frozen_set (fr q) ⟨w.heap.size + 1 + 1, 6, none⟩ (.int .i64 x6)
  replace fp := fun q => frozen_set (fp q) ⟨w.heap.size + 1 + 1, 6, none⟩ (.int .i64 x6)
  replace M := M.put ⟨w.heap.size + 1 + 1, 6, none⟩ (.int .i64 x6) (show w.heap.size ≤ w.heap.size + 1 + 1 from by omega)
  replace r0 := World.cell?_setCell_same _ _ (.int .i64 x0) r0
  replace r1 := cell_set r1 ⟨w.heap.size + 1, 0, none⟩ (.int .i64 x0) (.inr (by simp))
  replace r2 := cell_set r2 ⟨w.heap.size + 1, 0, none⟩ (.int .i64 x0) (.inr (by simp))
  replace r3 := cell_set r3 ⟨w.heap.size + 1, 0, none⟩ (.int .i64 x0) (.inr (by simp))
  replace r4 := cell_set r4 ⟨w.heap.size + 1, 0, none⟩ (.int .i64 x0) (.inr (by simp))
  replace r5 := cell_set r5 ⟨w.heap.size + 1, 0, none⟩ (.int .i64 x0) (.inr (by simp))
  replace r6 := cell_set r6 ⟨w.heap.size + 1, 0, none⟩ (.int .i64 x0) (.inr (by simp))
  replace M := M.put ⟨w.heap.size + 1, 0, none⟩ (.int .i64 x0) (show w.heap.size ≤ w.heap.size + 1 from by omega)
  replace r0 := cell_set r0 ⟨w.heap.size + 1, 1, none⟩ (.int .i64 x1) (.inr (by simp))
  replace r1 := World.cell?_setCell_same _ _ (.int .i64 x1) r1
  replace r2 := cell_set r2 ⟨w.heap.size + 1, 1, none⟩ (.int .i64 x1) (.inr (by simp))
  replace r3 := cell_set r3 ⟨w.heap.size + 1, 1, none⟩ (.int .i64 x1) (.inr (by simp))
  replace r4 := cell_set r4 ⟨w.heap.size + 1, 1, none⟩ (.int .i64 x1) (.inr (by simp))
  replace r5 := cell_set r5 ⟨w.heap.size + 1, 1, none⟩ (.int .i64 x1) (.inr (by simp))
  replace r6 := cell_set r6 ⟨w.heap.size + 1, 1, none⟩ (.int .i64 x1) (.inr (by simp))
  replace M := M.put ⟨w.heap.size + 1, 1, none⟩ (.int .i64 x1) (show w.heap.size ≤ w.heap.size + 1 from by omega)
  replace r0 := cell_set r0 ⟨w.heap.size + 1, 2, none⟩ (.int .i64 x2) (.inr (by simp))
  replace r1 := cell_set r1 ⟨w.heap.size + 1, 2, none⟩ (.int .i64 x2) (.inr (by simp))
  replace r2 := World.cell?_setCell_same _ _ (.int .i64 x2) r2
  replace r3 := cell_set r3 ⟨w.heap.size + 1, 2, none⟩ (.int .i64 x2) (.inr (by simp))
  replace r4 := cell_set r4 ⟨w.heap.size + 1, 2, none⟩ (.int .i64 x2) (.inr (by simp))
  replace r5 := cell_set r5 ⟨w.heap.size + 1, 2, none⟩ (.int .i64 x2) (.inr (by simp))
  replace r6 := cell_set r6 ⟨w.heap.size + 1, 2, none⟩ (.int .i64 x2) (.inr (by simp))
  replace M := M.put ⟨w.heap.size + 1, 2, none⟩ (.int .i64 x2) (show w.heap.size ≤ w.heap.size + 1 from by omega)
  replace r0 := cell_set r0 ⟨w.heap.size + 1, 3, none⟩ (.int .i64 x3) (.inr (by simp))
  replace r1 := cell_set r1 ⟨w.heap.size + 1, 3, none⟩ (.int .i64 x3) (.inr (by simp))
  replace r2 := cell_set r2 ⟨w.heap.size + 1, 3, none⟩ (.int .i64 x3) (.inr (by simp))
  replace r3 := World.cell?_setCell_same _ _ (.int .i64 x3) r3
  replace r4 := cell_set r4 ⟨w.heap.size + 1, 3, none⟩ (.int .i64 x3) (.inr (by simp))
  replace r5 := cell_set r5 ⟨w.heap.size + 1, 3, none⟩ (.int .i64 x3) (.inr (by simp))
  replace r6 := cell_set r6 ⟨w.heap.size + 1, 3, none⟩ (.int .i64 x3) (.inr (by simp))
  replace M := M.put ⟨w.heap.size + 1, 3, none⟩ (.int .i64 x3) (show w.heap.size ≤ w.heap.size + 1 from by omega)
  replace r0 := cell_set r0 ⟨w.heap.size + 1, 4, none⟩ (.int .i64 x4) (.inr (by simp))
  replace r1 := cell_set r1 ⟨w.heap.size + 1, 4, none⟩ (.int .i64 x4) (.inr (by simp))
  replace r2 := cell_set r2 ⟨w.heap.size + 1, 4, none⟩ (.int .i64 x4) (.inr (by simp))
  replace r3 := cell_set r3 ⟨w.heap.size + 1, 4, none⟩ (.int .i64 x4) (.inr (by simp))
  replace r4 := World.cell?_setCell_same _ _ (.int .i64 x4) r4
  replace r5 := cell_set r5 ⟨w.heap.size + 1, 4, none⟩ (.int .i64 x4) (.inr (by simp))
  replace r6 := cell_set r6 ⟨w.heap.size + 1, 4, none⟩ (.int .i64 x4) (.inr (by simp))
  replace M := M.put ⟨w.heap.size + 1, 4, none⟩ (.int .i64 x4) (show w.heap.size ≤ w.heap.size + 1 from by omega)
  replace r0 := cell_set r0 ⟨w.heap.size + 1, 5, none⟩ (.int .i64 x5) (.inr (by simp))
  replace r1 := cell_set r1 ⟨w.heap.size + 1, 5, none⟩ (.int .i64 x5) (.inr (by simp))
  replace r2 := cell_set r2 ⟨w.heap.size + 1, 5, none⟩ (.int .i64 x5) (.inr (by simp))
  replace r3 := cell_set r3 ⟨w.heap.size + 1, 5, none⟩ (.int .i64 x5) (.inr (by simp))
  replace r4 := cell_set r4 ⟨w.heap.size + 1, 5, none⟩ (.int .i64 x5) (.inr (by simp))
  replace r5 := World.cell?_setCell_same _ _ (.int .i64 x5) r5
  replace r6 := cell_set r6 ⟨w.heap.size + 1, 5, none⟩ (.int .i64 x5) (.inr (by simp))
  replace M := M.put ⟨w.heap.size + 1, 5, none⟩ (.int .i64 x5) (show w.heap.size ≤ w.heap.size + 1 from by omega)
  replace r0 := cell_set r0 ⟨w.heap.size + 1, 6, none⟩ (.int .i64 x6) (.inr (by simp))
  replace r1 := cell_set r1 ⟨w.heap.size + 1, 6, none⟩ (.int .i64 x6) (.inr (by simp))
  replace r2 := cell_set r2 ⟨w.heap.size + 1, 6, none⟩ (.int .i64 x6) (.inr (by simp))
  replace r3 := cell_set r3 ⟨w.heap.size + 1, 6, none⟩ (.int .i64 x6) (.inr (by simp))
  replace r4 := cell_set r4 ⟨w.heap.size + 1, 6, none⟩ (.int .i64 x6) (.inr (by simp))
  replace r5 := cell_set r5 ⟨w.heap.size + 1, 6, none⟩ (.int .i64 x6) (.inr (by simp))
  replace r6 := World.cell?_setCell_same _ _ (.int .i64 x6) r6
  replace M := M.put ⟨w.heap.size + 1, 6, none⟩ (.int .i64 x6) (show w.heap.size ≤ w.heap.size + 1 from by omega)
  clear p0 p1 p2 p3 p4 p5 p6 fr fp
  have zF : (((((((((w1.setCell ⟨w.heap.size + 1 + 1, 5, none⟩ (.int .i64 x5)).setCell ⟨w.heap.size + 1 + 1, 6, none⟩ (.int .i64 x6)).setCell ⟨w.heap.size + 1, 0, none⟩ (.int .i64 x0)).setCell ⟨w.heap.size + 1, 1, none⟩ (.int .i64 x1)).setCell ⟨w.heap.size + 1, 2, none⟩ (.int .i64 x2)).setCell ⟨w.heap.size + 1, 3, none⟩ (.int .i64 x3)).setCell ⟨w.heap.size + 1, 4, none⟩ (.int .i64 x4)).setCell ⟨w.heap.size + 1, 5, none⟩ (.int .i64 x5)).setCell ⟨w.heap.size + 1, 6, none⟩ (.int .i64 x6)).heap.size = w1.heap.size := by simp [World.setCell]
  generalize (((((((((w1.setCell ⟨w.heap.size + 1 + 1, 5, none⟩ (.int .i64 x5)).setCell ⟨w.heap.size + 1 + 1, 6, none⟩ (.int .i64 x6)).setCell ⟨w.heap.size + 1, 0, none⟩ (.int .i64 x0)).setCell ⟨w.heap.size + 1, 1, none⟩ (.int .i64 x1)).setCell ⟨w.heap.size + 1, 2, none⟩ (.int .i64 x2)).setCell ⟨w.heap.size + 1, 3, none⟩ (.int .i64 x3)).setCell ⟨w.heap.size + 1, 4, none⟩ (.int .i64 x4)).setCell ⟨w.heap.size + 1, 5, none⟩ (.int .i64 x5)).setCell ⟨w.heap.size + 1, 6, none⟩ (.int .i64 x6)) = WF at *
  exact bodyPost_ret (v := .agg #[.int .i64 x0, .int .i64 x1, .int .i64 x2, .int .i64 x3, .int .i64 x4, .int .i64 x5, .int .i64 x6]) (by simp [results, Tryd.results14, go_sem, r0, r1, r2, r3, r4, r5, r6]) rfl ⟨rfl, M⟩

end Go.Proofs.YtgchhkgcdcknlaaDoor
