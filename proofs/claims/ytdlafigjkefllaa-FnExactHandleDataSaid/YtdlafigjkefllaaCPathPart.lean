
/- PathPart by value: the laws' copy, equality and size. -/
import Derived.Test.YtdlafigjkefllaaZHop
import Derived.Test.YtdlafigjkefllaaSHop
namespace Go.Proofs.Ytdlafigjkefllaa
open Go.ChangeShapes Go.WideShapes Go.ChangeAt Go.RowKit
set_option linter.unusedVariables false

set_option maxRecDepth 100000 in
set_option maxHeartbeats 1600000 in
theorem toPathPartC (x0 x1 x2 : Int) (a3 : Option Addr) (n3 c3 : Nat) (z3 : List THop) (B : Nat) (w : World) (h3 : HasHop w B a3 n3 z3) (hB : B ≤ w.heap.size) (hn3 : n3 ≤ 1048576) :
    Calls Try.prog 104 #[.agg #[.int .i64 x0, .int .i64 x1, .int .i64 x2, .slice a3 n3 c3]] w fun e w' => ∃ b3, e = .returned (.agg #[.int .i64 x0, .int .i64 x1, .int .i64 x2, .slice (some ⟨b3, 0, none⟩) n3 n3]) ∧
      OwnHop w' w.heap.size w'.heap.size (some ⟨b3, 0, none⟩) n3 z3 ∧ w.heap.size ≤ w'.heap.size ∧ Mk0 w w' := by
  go_enter Try.func104, Try.ntmps104
  go_wp2_with fail
  have M0 := ((Mk.alloc w (Obj.cells #[Value.int .i64 x0, Value.int .i64 x1, Value.int .i64 x2, Value.slice a3 n3 c3] 146)).new (Obj.cells #[Value.int .i64 0, Value.int .i64 0, Value.int .i64 0, Value.slice none 0 0] 148)).new (Obj.cells #[Value.int .i64 x0, Value.int .i64 x1, Value.int .i64 x2, Value.slice none 0 0] 148)
  refine (toHopS a3 n3 c3 B z3 _ (h3.mk M0 hB (.inr (Nat.le_refl _))) (by have := M0.size; omega) hn3).mono ?_
  rintro e w1 ⟨b3, rfl, o0, m1⟩
  have M1 := M0.trans m1
  obtain ⟨q1, r1⟩ := m1.kept
  have y0 : w.heap.size < w1.heap.size := by have := m1.size; simp at this; omega
  have y1 : w.heap.size + 1 < w1.heap.size := by have := m1.size; simp at this; omega
  have y2 : w.heap.size + 1 + 1 < w1.heap.size := by have := m1.size; simp at this; omega
  go_wp2_with fail
  have M2 := M1.put ⟨w.heap.size + 1 + 1, 3, none⟩ (.slice (some ⟨b3, 0, none⟩) n3 n3) (by simp; omega)
  have o0 := o0.set ⟨w.heap.size + 1 + 1, 3, none⟩ (.slice (some ⟨b3, 0, none⟩) n3 n3) (.inl (by first | (simp; done) | (simp; omega) | (rw [World.size_set]; simp; omega)))
  have t0 : w1.cell? ⟨w.heap.size + 1, 0, none⟩ = some (.int .i64 0) := by rw [q1 _ _ (by simp)]; simp [go_sem]
  have t1 : w1.cell? ⟨w.heap.size + 1, 1, none⟩ = some (.int .i64 0) := by rw [q1 _ _ (by simp)]; simp [go_sem]
  have t2 : w1.cell? ⟨w.heap.size + 1, 2, none⟩ = some (.int .i64 0) := by rw [q1 _ _ (by simp)]; simp [go_sem]
  have t3 : w1.cell? ⟨w.heap.size + 1, 3, none⟩ = some (.slice none 0 0) := by rw [q1 _ _ (by simp)]; simp [go_sem]
  clear q1 r1
  have N0 := M2.put ⟨w.heap.size + 1, 0, none⟩ (.int .i64 x0) (by simp)
  have N1 := N0.put ⟨w.heap.size + 1, 1, none⟩ (.int .i64 x1) (by simp)
  have N2 := N1.put ⟨w.heap.size + 1, 2, none⟩ (.int .i64 x2) (by simp)
  have N3 := N2.put ⟨w.heap.size + 1, 3, none⟩ (.slice (some ⟨b3, 0, none⟩) n3 n3) (by simp)
  have o0 := o0.set ⟨w.heap.size + 1, 0, none⟩ (.int .i64 x0) (.inl (by first | (simp; done) | (simp; omega) | (rw [World.size_set]; simp; omega)))
  have o0 := o0.set ⟨w.heap.size + 1, 1, none⟩ (.int .i64 x1) (.inl (by first | (simp; done) | (simp; omega) | (rw [World.size_set]; simp; omega)))
  have o0 := o0.set ⟨w.heap.size + 1, 2, none⟩ (.int .i64 x2) (.inl (by first | (simp; done) | (simp; omega) | (rw [World.size_set]; simp; omega)))
  have o0 := o0.set ⟨w.heap.size + 1, 3, none⟩ (.slice (some ⟨b3, 0, none⟩) n3 n3) (.inl (by first | (simp; done) | (simp; omega) | (rw [World.size_set]; simp; omega)))
  have e0 : (((((w1.setCell ⟨w.heap.size + 1 + 1, 3, none⟩ (.slice (some ⟨b3, 0, none⟩) n3 n3)).setCell ⟨w.heap.size + 1, 0, none⟩ (.int .i64 x0)).setCell ⟨w.heap.size + 1, 1, none⟩ (.int .i64 x1)).setCell ⟨w.heap.size + 1, 2, none⟩ (.int .i64 x2)).setCell ⟨w.heap.size + 1, 3, none⟩ (.slice (some ⟨b3, 0, none⟩) n3 n3)).cell? ⟨w.heap.size + 1, 0, none⟩ = some (.int .i64 x0) := (cell_set (cell_set (cell_set (World.cell?_setCell_same _ _ (.int .i64 x0) (cell_set t0 ⟨w.heap.size + 1 + 1, 3, none⟩ (.slice (some ⟨b3, 0, none⟩) n3 n3) (.inl (by simp)))) ⟨w.heap.size + 1, 1, none⟩ (.int .i64 x1) (.inr (by simp))) ⟨w.heap.size + 1, 2, none⟩ (.int .i64 x2) (.inr (by simp))) ⟨w.heap.size + 1, 3, none⟩ (.slice (some ⟨b3, 0, none⟩) n3 n3) (.inr (by simp)))
  have e1 : (((((w1.setCell ⟨w.heap.size + 1 + 1, 3, none⟩ (.slice (some ⟨b3, 0, none⟩) n3 n3)).setCell ⟨w.heap.size + 1, 0, none⟩ (.int .i64 x0)).setCell ⟨w.heap.size + 1, 1, none⟩ (.int .i64 x1)).setCell ⟨w.heap.size + 1, 2, none⟩ (.int .i64 x2)).setCell ⟨w.heap.size + 1, 3, none⟩ (.slice (some ⟨b3, 0, none⟩) n3 n3)).cell? ⟨w.heap.size + 1, 1, none⟩ = some (.int .i64 x1) := (cell_set (cell_set (World.cell?_setCell_same _ _ (.int .i64 x1) (cell_set (cell_set t1 ⟨w.heap.size + 1 + 1, 3, none⟩ (.slice (some ⟨b3, 0, none⟩) n3 n3) (.inl (by simp))) ⟨w.heap.size + 1, 0, none⟩ (.int .i64 x0) (.inr (by simp)))) ⟨w.heap.size + 1, 2, none⟩ (.int .i64 x2) (.inr (by simp))) ⟨w.heap.size + 1, 3, none⟩ (.slice (some ⟨b3, 0, none⟩) n3 n3) (.inr (by simp)))
  have e2 : (((((w1.setCell ⟨w.heap.size + 1 + 1, 3, none⟩ (.slice (some ⟨b3, 0, none⟩) n3 n3)).setCell ⟨w.heap.size + 1, 0, none⟩ (.int .i64 x0)).setCell ⟨w.heap.size + 1, 1, none⟩ (.int .i64 x1)).setCell ⟨w.heap.size + 1, 2, none⟩ (.int .i64 x2)).setCell ⟨w.heap.size + 1, 3, none⟩ (.slice (some ⟨b3, 0, none⟩) n3 n3)).cell? ⟨w.heap.size + 1, 2, none⟩ = some (.int .i64 x2) := (cell_set (World.cell?_setCell_same _ _ (.int .i64 x2) (cell_set (cell_set (cell_set t2 ⟨w.heap.size + 1 + 1, 3, none⟩ (.slice (some ⟨b3, 0, none⟩) n3 n3) (.inl (by simp))) ⟨w.heap.size + 1, 0, none⟩ (.int .i64 x0) (.inr (by simp))) ⟨w.heap.size + 1, 1, none⟩ (.int .i64 x1) (.inr (by simp)))) ⟨w.heap.size + 1, 3, none⟩ (.slice (some ⟨b3, 0, none⟩) n3 n3) (.inr (by simp)))
  have e3 : (((((w1.setCell ⟨w.heap.size + 1 + 1, 3, none⟩ (.slice (some ⟨b3, 0, none⟩) n3 n3)).setCell ⟨w.heap.size + 1, 0, none⟩ (.int .i64 x0)).setCell ⟨w.heap.size + 1, 1, none⟩ (.int .i64 x1)).setCell ⟨w.heap.size + 1, 2, none⟩ (.int .i64 x2)).setCell ⟨w.heap.size + 1, 3, none⟩ (.slice (some ⟨b3, 0, none⟩) n3 n3)).cell? ⟨w.heap.size + 1, 3, none⟩ = some (.slice (some ⟨b3, 0, none⟩) n3 n3) := (World.cell?_setCell_same _ _ (.slice (some ⟨b3, 0, none⟩) n3 n3) (cell_set (cell_set (cell_set (cell_set t3 ⟨w.heap.size + 1 + 1, 3, none⟩ (.slice (some ⟨b3, 0, none⟩) n3 n3) (.inl (by simp))) ⟨w.heap.size + 1, 0, none⟩ (.int .i64 x0) (.inr (by simp))) ⟨w.heap.size + 1, 1, none⟩ (.int .i64 x1) (.inr (by simp))) ⟨w.heap.size + 1, 2, none⟩ (.int .i64 x2) (.inr (by simp))))
  have zs0 := m1.size
  have zw : (((((w1.setCell ⟨w.heap.size + 1 + 1, 3, none⟩ (.slice (some ⟨b3, 0, none⟩) n3 n3)).setCell ⟨w.heap.size + 1, 0, none⟩ (.int .i64 x0)).setCell ⟨w.heap.size + 1, 1, none⟩ (.int .i64 x1)).setCell ⟨w.heap.size + 1, 2, none⟩ (.int .i64 x2)).setCell ⟨w.heap.size + 1, 3, none⟩ (.slice (some ⟨b3, 0, none⟩) n3 n3)).heap.size = w1.heap.size := by simp [World.setCell]
  clear t0 t1 t2 t3 N0 N1 N2 M0 M1 M2
  clear m1
  generalize (((((w1.setCell ⟨w.heap.size + 1 + 1, 3, none⟩ (.slice (some ⟨b3, 0, none⟩) n3 n3)).setCell ⟨w.heap.size + 1, 0, none⟩ (.int .i64 x0)).setCell ⟨w.heap.size + 1, 1, none⟩ (.int .i64 x1)).setCell ⟨w.heap.size + 1, 2, none⟩ (.int .i64 x2)).setCell ⟨w.heap.size + 1, 3, none⟩ (.slice (some ⟨b3, 0, none⟩) n3 n3)) = WF at *
  refine bodyPost_ret (v := .agg #[.int .i64 x0, .int .i64 x1, .int .i64 x2, .slice (some ⟨b3, 0, none⟩) n3 n3]) (by simp [results, Try.results104, go_sem, e0, e1, e2, e3]) rfl ⟨b3, rfl, ?_, ?_, N3⟩
  · exact o0.wide (by first | (simp; done) | (simp; omega) | (rw [World.size_set]; exact Nat.le_refl _)) (by first | exact Nat.le_refl _ | (rw [zw]; exact Nat.le_refl _) | omega)
  · simp at zs0 ⊢; omega

set_option maxRecDepth 100000 in
set_option maxHeartbeats 1600000 in
theorem eqPathPartC (x0 x1 x2 : Int) (a3 a3' : Option Addr) (n3 c3 c3' : Nat) (z3 : List THop) (B B' : Nat) (w : World) (h3 : HasHop w B a3 n3 z3) (h3' : HasHop w B' a3' n3 z3) (hB : B ≤ w.heap.size) (hB' : B' ≤ w.heap.size) (hn3 : n3 ≤ 1048576) :
    Calls Try.prog 106 #[.agg #[.int .i64 x0, .int .i64 x1, .int .i64 x2, .slice a3 n3 c3], .agg #[.int .i64 x0, .int .i64 x1, .int .i64 x2, .slice a3' n3 c3']] w fun e w' => e = .returned (.bool true) ∧ Mk0 w w' := by
  go_enter Try.func106, Try.ntmps106
  go_wp2_with fail
  have M0 := (Mk.alloc w (Obj.cells #[Value.int .i64 x0, Value.int .i64 x1, Value.int .i64 x2, Value.slice a3 n3 c3] 148)).new (Obj.cells #[Value.int .i64 x0, Value.int .i64 x1, Value.int .i64 x2, Value.slice a3' n3 c3'] 148)
  refine (eqHopS a3 a3' n3 c3 c3' B B' z3 _ (h3.mk M0 hB (.inr (Nat.le_refl _))) (h3'.mk M0 hB' (.inr (Nat.le_refl _))) (by have := M0.size; omega) (by have := M0.size; omega) (by omega)).mono ?_
  rintro e w1 ⟨rfl, m1⟩
  have M1 := M0.trans m1
  obtain ⟨q1, r1⟩ := m1.kept
  have y0 : w.heap.size < w1.heap.size := by have := m1.size; simp at this; omega
  have y1 : w.heap.size + 1 < w1.heap.size := by have := m1.size; simp at this; omega
  go_wp2_with fail
  go_ret
  exact ⟨rfl, M1⟩

set_option maxRecDepth 100000 in
set_option maxHeartbeats 1600000 in
theorem szPathPartC (x0 x1 x2 : Int) (a3 : Option Addr) (n3 c3 : Nat) (l : Int) (w : World) (hq0 : 0 ≤ l) (hq1 : l ≤ 1048576) (hn : (n3 : Int) ≤ l) :
    Calls Try.prog 103 #[.agg #[.int .i64 x0, .int .i64 x1, .int .i64 x2, .slice a3 n3 c3], .int .i64 l] w fun e w' => ∃ l' : Int, l' = l - n3 ∧ e = .returned (.int .i64 l') ∧ Mk0 w w' := by
  go_enter Try.func103, Try.ntmps103
  go_wp2_with fail
  refine (szHopSC a3 n3 c3 _ _ (by omega) (by omega) (by omega)).mono ?_
  rintro e w' ⟨rfl, rfl⟩
  go_wp2_with fail
  go_ret
  exact ⟨_, rfl, rfl, Mk.alloc _ _⟩

set_option maxRecDepth 100000 in
set_option maxHeartbeats 1600000 in
theorem szPathPartB (x0 x1 x2 : Int) (a3 : Option Addr) (n3 c3 : Nat) (l : Int) (w : World) (hq0 : 0 ≤ l) (hq1 : l ≤ 1048576) (hn : l < (n3 : Int)) (hm3 : n3 ≤ 9223372036854775807) :
    Calls Try.prog 103 #[.agg #[.int .i64 x0, .int .i64 x1, .int .i64 x2, .slice a3 n3 c3], .int .i64 l] w fun e w' => e = .returned (.int .i64 (-1)) ∧ Mk0 w w' := by
  go_enter Try.func103, Try.ntmps103
  go_wp2_with fail
  refine (szHopSB a3 n3 c3 _ _ (by omega) (by omega) (by omega) hm3).mono ?_
  rintro e w' ⟨rfl, rfl⟩
  go_wp2_with fail
  go_ret
  exact ⟨rfl, Mk.alloc _ _⟩
end Go.Proofs.Ytdlafigjkefllaa
