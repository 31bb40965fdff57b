
/- TrustRoot by value: the laws' copy, equality and size. -/
import Derived.Test.YtgchhkgcdcknlaaDoorZSignature
import Derived.Test.YtgchhkgcdcknlaaDoorSSignature
namespace Go.Proofs.YtgchhkgcdcknlaaDoor
open Go.ChangeShapes Go.WideShapes Go.ChangeAt Go.RowKit
set_option linter.unusedVariables false

set_option maxRecDepth 100000 in
set_option maxHeartbeats 1600000 in
theorem toTrustRootC (x0 x1 x2 x3 x4 x5 : Int) (a6 : Option Addr) (n6 c6 : Nat) (z6 : List TSignature) (B : Nat) (w : World) (h6 : HasSignature w B a6 n6 z6) (hB : B ≤ w.heap.size) (hn6 : n6 ≤ 1048576) :
    Calls Tryd.prog 8 #[.agg #[.int .i64 x0, .int .i64 x1, .int .i64 x2, .int .i64 x3, .int .i64 x4, .int .i64 x5, .slice a6 n6 c6]] w fun e w' => ∃ b6, e = .returned (.agg #[.int .i64 x0, .int .i64 x1, .int .i64 x2, .int .i64 x3, .int .i64 x4, .int .i64 x5, .slice (some ⟨b6, 0, none⟩) n6 n6]) ∧
      OwnSignature w' w.heap.size w'.heap.size (some ⟨b6, 0, none⟩) n6 z6 ∧ w.heap.size ≤ w'.heap.size ∧ Mk0 w w' := by
  go_enter Tryd.func8, Tryd.ntmps8
  go_wp2_with fail
  have M0 := ((Mk.alloc w (Obj.cells #[Value.int .i64 x0, Value.int .i64 x1, Value.int .i64 x2, Value.int .i64 x3, Value.int .i64 x4, Value.int .i64 x5, Value.slice a6 n6 c6] 24)).new (Obj.cells #[Value.int .i64 0, Value.int .i64 0, Value.int .i64 0, Value.int .i64 0, Value.int .i64 0, Value.int .i64 0, Value.slice none 0 0] 29)).new (Obj.cells #[Value.int .i64 x0, Value.int .i64 x1, Value.int .i64 x2, Value.int .i64 x3, Value.int .i64 x4, Value.int .i64 x5, Value.slice none 0 0] 29)
  refine (toSignatureS a6 n6 c6 B z6 _ (h6.mk M0 hB (.inr (Nat.le_refl _))) (by have := M0.size; omega) hn6).mono ?_
  rintro e w1 ⟨b6, rfl, o0, m1⟩
  have M1 := M0.trans m1
  obtain ⟨q1, r1⟩ := m1.kept
  have y0 : w.heap.size < w1.heap.size := by have := m1.size; simp at this; omega
  have y1 : w.heap.size + 1 < w1.heap.size := by have := m1.size; simp at this; omega
  have y2 : w.heap.size + 1 + 1 < w1.heap.size := by have := m1.size; simp at this; omega
  go_wp2_with fail
  have M2 := M1.put ⟨w.heap.size + 1 + 1, 6, none⟩ (.slice (some ⟨b6, 0, none⟩) n6 n6) (by simp; omega)
  have o0 := o0.set ⟨w.heap.size + 1 + 1, 6, none⟩ (.slice (some ⟨b6, 0, none⟩) n6 n6) (.inl (by first | (simp; done) | (simp; omega) | (rw [World.size_set]; simp; omega)))
  have t0 : w1.cell? ⟨w.heap.size + 1, 0, none⟩ = some (.int .i64 0) := by rw [q1 _ _ (by simp)]; simp [go_sem]
  have t1 : w1.cell? ⟨w.heap.size + 1, 1, none⟩ = some (.int .i64 0) := by rw [q1 _ _ (by simp)]; simp [go_sem]
  have t2 : w1.cell? ⟨w.heap.size + 1, 2, none⟩ = some (.int .i64 0) := by rw [q1 _ _ (by simp)]; simp [go_sem]
  have t3 : w1.cell? ⟨w.heap.size + 1, 3, none⟩ = some (.int .i64 0) := by rw [q1 _ _ (by simp)]; simp [go_sem]
  have t4 : w1.cell? ⟨w.heap.size + 1, 4, none⟩ = some (.int .i64 0) := by rw [q1 _ _ (by simp)]; simp [go_sem]
  have t5 : w1.cell? ⟨w.heap.size + 1, 5, none⟩ = some (.int .i64 0) := by rw [q1 _ _ (by simp)]; simp [go_sem]
  have t6 : w1.cell? ⟨w.heap.size + 1, 6, none⟩ = some (.slice none 0 0) := by rw [q1 _ _ (by simp)]; simp [go_sem]
  clear q1 r1
  have N0 := M2.put ⟨w.heap.size + 1, 0, none⟩ (.int .i64 x0) (by simp)
  have N1 := N0.put ⟨w.heap.size + 1, 1, none⟩ (.int .i64 x1) (by simp)
  have N2 := N1.put ⟨w.heap.size + 1, 2, none⟩ (.int .i64 x2) (by simp)
  have N3 := N2.put ⟨w.heap.size + 1, 3, none⟩ (.int .i64 x3) (by simp)
  have N4 := N3.put ⟨w.heap.size + 1, 4, none⟩ (.int .i64 x4) (by simp)
  have N5 := N4.put ⟨w.heap.size + 1, 5, none⟩ (.int .i64 x5) (by simp)
  have N6 := N5.put ⟨w.heap.size + 1, 6, none⟩ (.slice (some ⟨b6, 0, none⟩) n6 n6) (by simp)
  have o0 := o0.set ⟨w.heap.size + 1, 0, none⟩ (.int .i64 x0) (.inl (by first | (simp; done) | (simp; omega) | (rw [World.size_set]; simp; omega)))
  have o0 := o0.set ⟨w.heap.size + 1, 1, none⟩ (.int .i64 x1) (.inl (by first | (simp; done) | (simp; omega) | (rw [World.size_set]; simp; omega)))
  have o0 := o0.set ⟨w.heap.size + 1, 2, none⟩ (.int .i64 x2) (.inl (by first | (simp; done) | (simp; omega) | (rw [World.size_set]; simp; omega)))
  have o0 := o0.set ⟨w.heap.size + 1, 3, none⟩ (.int .i64 x3) (.inl (by first | (simp; done) | (simp; omega) | (rw [World.size_set]; simp; omega)))
  have o0 := o0.set ⟨w.heap.size + 1, 4, none⟩ (.int .i64 x4) (.inl (by first | (simp; done) | (simp; omega) | (rw [World.size_set]; simp; omega)))
  have o0 := o0.set ⟨w.heap.size + 1, 5, none⟩ (.int .i64 x5) (.inl (by first | (simp; done) | (simp; omega) | (rw [World.size_set]; simp; omega)))
  have o0 := o0.set ⟨w.heap.size + 1, 6, none⟩ (.slice (some ⟨b6, 0, none⟩) n6 n6) (.inl (by first | (simp; done) | (simp; omega) | (rw [World.size_set]; simp; omega)))
  have e0 : ((((((((w1.setCell ⟨w.heap.size + 1 + 1, 6, none⟩ (.slice (some ⟨b6, 0, none⟩) n6 n6)).setCell ⟨w.heap.size + 1, 0, none⟩ (.int .i64 x0)).setCell ⟨w.heap.size + 1, 1, none⟩ (.int .i64 x1)).setCell ⟨w.heap.size + 1, 2, none⟩ (.int .i64 x2)).setCell ⟨w.heap.size + 1, 3, none⟩ (.int .i64 x3)).setCell ⟨w.heap.size + 1, 4, none⟩ (.int .i64 x4)).setCell ⟨w.heap.size + 1, 5, none⟩ (.int .i64 x5)).setCell ⟨w.heap.size + 1, 6, none⟩ (.slice (some ⟨b6, 0, none⟩) n6 n6)).cell? ⟨w.heap.size + 1, 0, none⟩ = some (.int .i64 x0) := (cell_set (cell_set (cell_set (cell_set (cell_set (cell_set (World.cell?_setCell_same _ _ (.int .i64 x0) (cell_set t0 ⟨w.heap.size + 1 + 1, 6, none⟩ (.slice (some ⟨b6, 0, none⟩) n6 n6) (.inl (by simp)))) ⟨w.heap.size + 1, 1, none⟩ (.int .i64 x1) (.inr (by simp))) ⟨w.heap.size + 1, 2, none⟩ (.int .i64 x2) (.inr (by simp))) ⟨w.heap.size + 1, 3, none⟩ (.int .i64 x3) (.inr (by simp))) ⟨w.heap.size + 1, 4, none⟩ (.int .i64 x4) (.inr (by simp))) ⟨w.heap.size + 1, 5, none⟩ (.int .i64 x5) (.inr (by simp))) ⟨w.heap.size + 1, 6, none⟩ (.slice (some ⟨b6, 0, none⟩) n6 n6) (.inr (by simp)))
  have e1 : ((((((((w1.setCell ⟨w.heap.size + 1 + 1, 6, none⟩ (.slice (some ⟨b6, 0, none⟩) n6 n6)).setCell ⟨w.heap.size + 1, 0, none⟩ (.int .i64 x0)).setCell ⟨w.heap.size + 1, 1, none⟩ (.int .i64 x1)).setCell ⟨w.heap.size + 1, 2, none⟩ (.int .i64 x2)).setCell ⟨w.heap.size + 1, 3, none⟩ (.int .i64 x3)).setCell ⟨w.heap.size + 1, 4, none⟩ (.int .i64 x4)).setCell ⟨w.heap.size + 1, 5, none⟩ (.int .i64 x5)).setCell ⟨w.heap.size + 1, 6, none⟩ (.slice (some ⟨b6, 0, none⟩) n6 n6)).cell? ⟨w.heap.size + 1, 1, none⟩ = some (.int .i64 x1) := (cell_set (cell_set (cell_set (cell_set (cell_set (World.cell?_setCell_same _ _ (.int .i64 x1) (cell_set (cell_set t1 ⟨w.heap.size + 1 + 1, 6, none⟩ (.slice (some ⟨b6, 0, none⟩) n6 n6) (.inl (by simp))) ⟨w.heap.size + 1, 0, none⟩ (.int .i64 x0) (.inr (by simp)))) ⟨w.heap.size + 1, 2, none⟩ (.int .i64 x2) (.inr (by simp))) ⟨w.heap.size + 1, 3, none⟩ (.int .i64 x3) (.inr (by simp))) ⟨w.heap.size + 1, 4, none⟩ (.int .i64 x4) (.inr (by simp))) ⟨w.heap.size + 1, 5, none⟩ (.int .i64 x5) (.inr (by simp))) ⟨w.heap.size + 1, 6, none⟩ (.slice (some ⟨b6, 0, none⟩) n6 n6) (.inr (by simp)))
  have e2 : ((((((((w1.setCell ⟨w.heap.size + 1 + 1, 6, none⟩ (.slice (some ⟨b6, 0, none⟩) n6 n6)).setCell ⟨w.heap.size + 1, 0, none⟩ (.int .i64 x0)).setCell ⟨w.heap.size + 1, 1, none⟩ (.int .i64 x1)).setCell ⟨w.heap.size + 1, 2, none⟩ (.int .i64 x2)).setCell ⟨w.heap.size + 1, 3, none⟩ (.int .i64 x3)).setCell ⟨w.heap.size + 1, 4, none⟩ (.int .i64 x4)).setCell ⟨w.heap.size + 1, 5, none⟩ (.int .i64 x5)).setCell ⟨w.heap.size + 1, 6, none⟩ (.slice (some ⟨b6, 0, none⟩) n6 n6)).cell? ⟨w.heap.size + 1, 2, none⟩ = some (.int .i64 x2) := (cell_set (cell_set (cell_set (cell_set (World.cell?_setCell_same _ _ (.int .i64 x2) (cell_set (cell_set (cell_set t2 ⟨w.heap.size + 1 + 1, 6, none⟩ (.slice (some ⟨b6, 0, none⟩) n6 n6) (.inl (by simp))) ⟨w.heap.size + 1, 0, none⟩ (.int .i64 x0) (.inr (by simp))) ⟨w.heap.size + 1, 1, none⟩ (.int .i64 x1) (.inr (by simp)))) ⟨w.heap.size + 1, 3, none⟩ (.int .i64 x3) (.inr (by simp))) ⟨w.heap.size + 1, 4, none⟩ (.int .i64 x4) (.inr (by simp))) ⟨w.heap.size + 1, 5, none⟩ (.int .i64 x5) (.inr (by simp))) ⟨w.heap.size + 1, 6, none⟩ (.slice (some ⟨b6, 0, none⟩) n6 n6) (.inr (by simp)))
  have e3 : ((((((((w1.setCell ⟨w.heap.size + 1 + 1, 6, none⟩ (.slice (some ⟨b6, 0, none⟩) n6 n6)).setCell ⟨w.heap.size + 1, 0, none⟩ (.int .i64 x0)).setCell ⟨w.heap.size + 1, 1, none⟩ (.int .i64 x1)).setCell ⟨w.heap.size + 1, 2, none⟩ (.int .i64 x2)).setCell ⟨w.heap.size + 1, 3, none⟩ (.int .i64 x3)).setCell ⟨w.heap.size + 1, 4, none⟩ (.int .i64 x4)).setCell ⟨w.heap.size + 1, 5, none⟩ (.int .i64 x5)).setCell ⟨w.heap.size + 1, 6, none⟩ (.slice (some ⟨b6, 0, none⟩) n6 n6)).cell? ⟨w.heap.size + 1, 3, none⟩ = some (.int .i64 x3) := (cell_set (cell_set (cell_set (World.cell?_setCell_same _ _ (.int .i64 x3) (cell_set (cell_set (cell_set (cell_set t3 ⟨w.heap.size + 1 + 1, 6, none⟩ (.slice (some ⟨b6, 0, none⟩) n6 n6) (.inl (by simp))) ⟨w.heap.size + 1, 0, none⟩ (.int .i64 x0) (.inr (by simp))) ⟨w.heap.size + 1, 1, none⟩ (.int .i64 x1) (.inr (by simp))) ⟨w.heap.size + 1, 2, none⟩ (.int .i64 x2) (.inr (by simp)))) ⟨w.heap.size + 1, 4, none⟩ (.int .i64 x4) (.inr (by simp))) ⟨w.heap.size + 1, 5, none⟩ (.int .i64 x5) (.inr (by simp))) ⟨w.heap.size + 1, 6, none⟩ (.slice (some ⟨b6, 0, none⟩) n6 n6) (.inr (by simp)))
  have e4 : ((((((((w1.setCell ⟨w.heap.size + 1 + 1, 6, none⟩ (.slice (some ⟨b6, 0, none⟩) n6 n6)).setCell ⟨w.heap.size + 1, 0, none⟩ (.int .i64 x0)).setCell ⟨w.heap.size + 1, 1, none⟩ (.int .i64 x1)).setCell ⟨w.heap.size + 1, 2, none⟩ (.int .i64 x2)).setCell ⟨w.heap.size + 1, 3, none⟩ (.int .i64 x3)).setCell ⟨w.heap.size + 1, 4, none⟩ (.int .i64 x4)).setCell ⟨w.heap.size + 1, 5, none⟩ (.int .i64 x5)).setCell ⟨w.heap.size + 1, 6, none⟩ (.slice (some ⟨b6, 0, none⟩) n6 n6)).cell? ⟨w.heap.size + 1, 4, none⟩ = some (.int .i64 x4) := (cell_set (cell_set (World.cell?_setCell_same _ _ (.int .i64 x4) (cell_set (cell_set (cell_set (cell_set (cell_set t4 ⟨w.heap.size + 1 + 1, 6, none⟩ (.slice (some ⟨b6, 0, none⟩) n6 n6) (.inl (by simp))) ⟨w.heap.size + 1, 0, none⟩ (.int .i64 x0) (.inr (by simp))) ⟨w.heap.size + 1, 1, none⟩ (.int .i64 x1) (.inr (by simp))) ⟨w.heap.size + 1, 2, none⟩ (.int .i64 x2) (.inr (by simp))) ⟨w.heap.size + 1, 3, none⟩ (.int .i64 x3) (.inr (by simp)))) ⟨w.heap.size + 1, 5, none⟩ (.int .i64 x5) (.inr (by simp))) ⟨w.heap.size + 1, 6, none⟩ (.slice (some ⟨b6, 0, none⟩) n6 n6) (.inr (by simp)))
  have e5 : ((((((((w1.setCell ⟨w.heap.size + 1 + 1, 6, none⟩ (.slice (some ⟨b6, 0, none⟩) n6 n6)).setCell ⟨w.heap.size + 1, 0, none⟩ (.int .i64 x0)).setCell ⟨w.heap.size + 1, 1, none⟩ (.int .i64 x1)).setCell ⟨w.heap.size + 1, 2, none⟩ (.int .i64 x2)).setCell ⟨w.heap.size + 1, 3, none⟩ (.int .i64 x3)).setCell ⟨w.heap.size + 1, 4, none⟩ (.int .i64 x4)).setCell ⟨w.heap.size + 1, 5, none⟩ (.int .i64 x5)).setCell ⟨w.heap.size + 1, 6, none⟩ (.slice (some ⟨b6, 0, none⟩) n6 n6)).cell? ⟨w.heap.size + 1, 5, none⟩ = some (.int .i64 x5) := (cell_set (World.cell?_setCell_same _ _ (.int .i64 x5) (cell_set (cell_set (cell_set (cell_set (cell_set (cell_set t5 ⟨w.heap.size + 1 + 1, 6, none⟩ (.slice (some ⟨b6, 0, none⟩) n6 n6) (.inl (by simp))) ⟨w.heap.size + 1, 0, none⟩ (.int .i64 x0) (.inr (by simp))) ⟨w.heap.size + 1, 1, none⟩ (.int .i64 x1) (.inr (by simp))) ⟨w.heap.size + 1, 2, none⟩ (.int .i64 x2) (.inr (by simp))) ⟨w.heap.size + 1, 3, none⟩ (.int .i64 x3) (.inr (by simp))) ⟨w.heap.size + 1, 4, none⟩ (.int .i64 x4) (.inr (by simp)))) ⟨w.heap.size + 1, 6, none⟩ (.slice (some ⟨b6, 0, none⟩) n6 n6) (.inr (by simp)))
  have e6 : ((((((((w1.setCell ⟨w.heap.size + 1 + 1, 6, none⟩ (.slice (some ⟨b6, 0, none⟩) n6 n6)).setCell ⟨w.heap.size + 1, 0, none⟩ (.int .i64 x0)).setCell ⟨w.heap.size + 1, 1, none⟩ (.int .i64 x1)).setCell ⟨w.heap.size + 1, 2, none⟩ (.int .i64 x2)).setCell ⟨w.heap.size + 1, 3, none⟩ (.int .i64 x3)).setCell ⟨w.heap.size + 1, 4, none⟩ (.int .i64 x4)).setCell ⟨w.heap.size + 1, 5, none⟩ (.int .i64 x5)).setCell ⟨w.heap.size + 1, 6, none⟩ (.slice (some ⟨b6, 0, none⟩) n6 n6)).cell? ⟨w.heap.size + 1, 6, none⟩ = some (.slice (some ⟨b6, 0, none⟩) n6 n6) := (World.cell?_setCell_same _ _ (.slice (some ⟨b6, 0, none⟩) n6 n6) (cell_set (cell_set (cell_set (cell_set (cell_set (cell_set (cell_set t6 ⟨w.heap.size + 1 + 1, 6, none⟩ (.slice (some ⟨b6, 0, none⟩) n6 n6) (.inl (by simp))) ⟨w.heap.size + 1, 0, none⟩ (.int .i64 x0) (.inr (by simp))) ⟨w.heap.size + 1, 1, none⟩ (.int .i64 x1) (.inr (by simp))) ⟨w.heap.size + 1, 2, none⟩ (.int .i64 x2) (.inr (by simp))) ⟨w.heap.size + 1, 3, none⟩ (.int .i64 x3) (.inr (by simp))) ⟨w.heap.size + 1, 4, none⟩ (.int .i64 x4) (.inr (by simp))) ⟨w.heap.size + 1, 5, none⟩ (.int .i64 x5) (.inr (by simp))))
  have zs0 := m1.size
  have zw : ((((((((w1.setCell ⟨w.heap.size + 1 + 1, 6, none⟩ (.slice (some ⟨b6, 0, none⟩) n6 n6)).setCell ⟨w.heap.size + 1, 0, none⟩ (.int .i64 x0)).setCell ⟨w.heap.size + 1, 1, none⟩ (.int .i64 x1)).setCell ⟨w.heap.size + 1, 2, none⟩ (.int .i64 x2)).setCell ⟨w.heap.size + 1, 3, none⟩ (.int .i64 x3)).setCell ⟨w.heap.size + 1, 4, none⟩ (.int .i64 x4)).setCell ⟨w.heap.size + 1, 5, none⟩ (.int .i64 x5)).setCell ⟨w.heap.size + 1, 6, none⟩ (.slice (some ⟨b6, 0, none⟩) n6 n6)).heap.size = w1.heap.size := by simp [World.setCell]
  clear t0 t1 t2 t3 t4 t5 t6 N0 N1 N2 N3 N4 N5 M0 M1 M2
  clear m1
  generalize ((((((((w1.setCell ⟨w.heap.size + 1 + 1, 6, none⟩ (.slice (some ⟨b6, 0, none⟩) n6 n6)).setCell ⟨w.heap.size + 1, 0, none⟩ (.int .i64 x0)).setCell ⟨w.heap.size + 1, 1, none⟩ (.int .i64 x1)).setCell ⟨w.heap.size + 1, 2, none⟩ (.int .i64 x2)).setCell ⟨w.heap.size + 1, 3, none⟩ (.int .i64 x3)).setCell ⟨w.heap.size + 1, 4, none⟩ (.int .i64 x4)).setCell ⟨w.heap.size + 1, 5, none⟩ (.int .i64 x5)).setCell ⟨w.heap.size + 1, 6, none⟩ (.slice (some ⟨b6, 0, none⟩) n6 n6)) = WF at *
  refine bodyPost_ret (v := .agg #[.int .i64 x0, .int .i64 x1, .int .i64 x2, .int .i64 x3, .int .i64 x4, .int .i64 x5, .slice (some ⟨b6, 0, none⟩) n6 n6]) (by simp [results, Tryd.results8, go_sem, e0, e1, e2, e3, e4, e5, e6]) rfl ⟨b6, rfl, ?_, ?_, N6⟩
  · exact o0.wide (by first | (simp; done) | (simp; omega) | (rw [World.size_set]; exact Nat.le_refl _)) (by first | exact Nat.le_refl _ | (rw [zw]; exact Nat.le_refl _) | omega)
  · simp at zs0 ⊢; omega

set_option maxRecDepth 100000 in
set_option maxHeartbeats 1600000 in
theorem eqTrustRootC (x0 x1 x2 x3 x4 x5 : Int) (a6 a6' : Option Addr) (n6 c6 c6' : Nat) (z6 : List TSignature) (B B' : Nat) (w : World) (h6 : HasSignature w B a6 n6 z6) (h6' : HasSignature w B' a6' n6 z6) (hB : B ≤ w.heap.size) (hB' : B' ≤ w.heap.size) (hn6 : n6 ≤ 1048576) :
    Calls Tryd.prog 10 #[.agg #[.int .i64 x0, .int .i64 x1, .int .i64 x2, .int .i64 x3, .int .i64 x4, .int .i64 x5, .slice a6 n6 c6], .agg #[.int .i64 x0, .int .i64 x1, .int .i64 x2, .int .i64 x3, .int .i64 x4, .int .i64 x5, .slice a6' n6 c6']] w fun e w' => e = .returned (.bool true) ∧ Mk0 w w' := by
  go_enter Tryd.func10, Tryd.ntmps10
  go_wp2_with fail
  have M0 := (Mk.alloc w (Obj.cells #[Value.int .i64 x0, Value.int .i64 x1, Value.int .i64 x2, Value.int .i64 x3, Value.int .i64 x4, Value.int .i64 x5, Value.slice a6 n6 c6] 29)).new (Obj.cells #[Value.int .i64 x0, Value.int .i64 x1, Value.int .i64 x2, Value.int .i64 x3, Value.int .i64 x4, Value.int .i64 x5, Value.slice a6' n6 c6'] 29)
  refine (eqSignatureS a6 a6' n6 c6 c6' B B' z6 _ (h6.mk M0 hB (.inr (Nat.le_refl _))) (h6'.mk M0 hB' (.inr (Nat.le_refl _))) (by have := M0.size; omega) (by have := M0.size; omega) (by omega)).mono ?_
  rintro e w1 ⟨rfl, m1⟩
  have M1 := M0.trans m1
  obtain ⟨q1, r1⟩ := m1.kept
  have y0 : w.heap.size < w1.heap.size := by have := m1.size; simp at this; omega
  have y1 : w.heap.size + 1 < w1.heap.size := by have := m1.size; simp at this; omega
  go_wp2_with fail
  go_ret
  exact ⟨rfl, M1⟩

set_option maxRecDepth 100000 in
set_option maxHeartbeats 1600000 in
theorem szTrustRootC (x0 x1 x2 x3 x4 x5 : Int) (a6 : Option Addr) (n6 c6 : Nat) (l : Int) (w : World) (hq0 : 0 ≤ l) (hq1 : l ≤ 1048576) (hn : (n6 : Int) ≤ l) :
    Calls Tryd.prog 6 #[.agg #[.int .i64 x0, .int .i64 x1, .int .i64 x2, .int .i64 x3, .int .i64 x4, .int .i64 x5, .slice a6 n6 c6], .int .i64 l] w fun e w' => ∃ l' : Int, l' = l - n6 ∧ e = .returned (.int .i64 l') ∧ Mk0 w w' := by
  go_enter Tryd.func6, Tryd.ntmps6
  go_wp2_with fail
  refine (szSignatureSC a6 n6 c6 _ _ (by omega) (by omega) (by omega)).mono ?_
  rintro e w' ⟨rfl, rfl⟩
  go_wp2_with fail
  go_ret
  exact ⟨_, rfl, rfl, Mk.alloc _ _⟩

set_option maxRecDepth 100000 in
set_option maxHeartbeats 1600000 in
theorem szTrustRootB (x0 x1 x2 x3 x4 x5 : Int) (a6 : Option Addr) (n6 c6 : Nat) (l : Int) (w : World) (hq0 : 0 ≤ l) (hq1 : l ≤ 1048576) (hn : l < (n6 : Int)) (hm6 : n6 ≤ 9223372036854775807) :
    Calls Tryd.prog 6 #[.agg #[.int .i64 x0, .int .i64 x1, .int .i64 x2, .int .i64 x3, .int .i64 x4, .int .i64 x5, .slice a6 n6 c6], .int .i64 l] w fun e w' => e = .returned (.int .i64 (-1)) ∧ Mk0 w w' := by
  go_enter Tryd.func6, Tryd.ntmps6
  go_wp2_with fail
  refine (szSignatureSB a6 n6 c6 _ _ (by omega) (by omega) (by omega) hm6).mono ?_
  rintro e w' ⟨rfl, rfl⟩
  go_wp2_with fail
  go_ret
  exact ⟨rfl, Mk.alloc _ _⟩
end Go.Proofs.YtgchhkgcdcknlaaDoor
