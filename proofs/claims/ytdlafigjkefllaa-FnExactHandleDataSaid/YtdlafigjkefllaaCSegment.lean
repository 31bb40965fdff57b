
/- Segment by value: the laws' copy, equality and size. -/
import Derived.Test.YtdlafigjkefllaaZHop
import Derived.Test.YtdlafigjkefllaaSHop
namespace Go.Proofs.Ytdlafigjkefllaa
open Go.ChangeShapes Go.WideShapes Go.ChangeAt Go.RowKit
set_option linter.unusedVariables false

set_option maxRecDepth 100000 in
set_option maxHeartbeats 1600000 in
theorem toSegmentC (x0 x1 : Int) (a2 : Option Addr) (n2 c2 : Nat) (z2 : List THop) (B : Nat) (w : World) (h2 : HasHop w B a2 n2 z2) (hB : B ≤ w.heap.size) (hn2 : n2 ≤ 1048576) :
    Calls Try.prog 74 #[.agg #[.int .i64 x0, .int .i64 x1, .slice a2 n2 c2]] w fun e w' => ∃ b2, e = .returned (.agg #[.int .i64 x0, .int .i64 x1, .slice (some ⟨b2, 0, none⟩) n2 n2]) ∧
      OwnHop w' w.heap.size w'.heap.size (some ⟨b2, 0, none⟩) n2 z2 ∧ w.heap.size ≤ w'.heap.size ∧ Mk0 w w' := by
  go_enter Try.func74, Try.ntmps74
  go_wp2_with fail
  have M0 := ((Mk.alloc w (Obj.cells #[Value.int .i64 x0, Value.int .i64 x1, Value.slice a2 n2 c2] 76)).new (Obj.cells #[Value.int .i64 0, Value.int .i64 0, Value.slice none 0 0] 82)).new (Obj.cells #[Value.int .i64 x0, Value.int .i64 x1, Value.slice none 0 0] 82)
  refine (toHopS a2 n2 c2 B z2 _ (h2.mk M0 hB (.inr (Nat.le_refl _))) (by have := M0.size; omega) hn2).mono ?_
  rintro e w1 ⟨b2, rfl, o0, m1⟩
  have M1 := M0.trans m1
  obtain ⟨q1, r1⟩ := m1.kept
  have y0 : w.heap.size < w1.heap.size := by have := m1.size; simp at this; omega
  have y1 : w.heap.size + 1 < w1.heap.size := by have := m1.size; simp at this; omega
  have y2 : w.heap.size + 1 + 1 < w1.heap.size := by have := m1.size; simp at this; omega
  go_wp2_with fail
  have M2 := M1.put ⟨w.heap.size + 1 + 1, 2, none⟩ (.slice (some ⟨b2, 0, none⟩) n2 n2) (by simp; omega)
  have o0 := o0.set ⟨w.heap.size + 1 + 1, 2, none⟩ (.slice (some ⟨b2, 0, none⟩) n2 n2) (.inl (by first | (simp; done) | (simp; omega) | (rw [World.size_set]; simp; omega)))
  have t0 : w1.cell? ⟨w.heap.size + 1, 0, none⟩ = some (.int .i64 0) := by rw [q1 _ _ (by simp)]; simp [go_sem]
  have t1 : w1.cell? ⟨w.heap.size + 1, 1, none⟩ = some (.int .i64 0) := by rw [q1 _ _ (by simp)]; simp [go_sem]
  have t2 : w1.cell? ⟨w.heap.size + 1, 2, none⟩ = some (.slice none 0 0) := by rw [q1 _ _ (by simp)]; simp [go_sem]
  clear q1 r1
  have N0 := M2.put ⟨w.heap.size + 1, 0, none⟩ (.int .i64 x0) (by simp)
  have N1 := N0.put ⟨w.heap.size + 1, 1, none⟩ (.int .i64 x1) (by simp)
  have N2 := N1.put ⟨w.heap.size + 1, 2, none⟩ (.slice (some ⟨b2, 0, none⟩) n2 n2) (by simp)
  have o0 := o0.set ⟨w.heap.size + 1, 0, none⟩ (.int .i64 x0) (.inl (by first | (simp; done) | (simp; omega) | (rw [World.size_set]; simp; omega)))
  have o0 := o0.set ⟨w.heap.size + 1, 1, none⟩ (.int .i64 x1) (.inl (by first | (simp; done) | (simp; omega) | (rw [World.size_set]; simp; omega)))
  have o0 := o0.set ⟨w.heap.size + 1, 2, none⟩ (.slice (some ⟨b2, 0, none⟩) n2 n2) (.inl (by first | (simp; done) | (simp; omega) | (rw [World.size_set]; simp; omega)))
  have e0 : ((((w1.setCell ⟨w.heap.size + 1 + 1, 2, none⟩ (.slice (some ⟨b2, 0, none⟩) n2 n2)).setCell ⟨w.heap.size + 1, 0, none⟩ (.int .i64 x0)).setCell ⟨w.heap.size + 1, 1, none⟩ (.int .i64 x1)).setCell ⟨w.heap.size + 1, 2, none⟩ (.slice (some ⟨b2, 0, none⟩) n2 n2)).cell? ⟨w.heap.size + 1, 0, none⟩ = some (.int .i64 x0) := (cell_set (cell_set (World.cell?_setCell_same _ _ (.int .i64 x0) (cell_set t0 ⟨w.heap.size + 1 + 1, 2, none⟩ (.slice (some ⟨b2, 0, none⟩) n2 n2) (.inl (by simp)))) ⟨w.heap.size + 1, 1, none⟩ (.int .i64 x1) (.inr (by simp))) ⟨w.heap.size + 1, 2, none⟩ (.slice (some ⟨b2, 0, none⟩) n2 n2) (.inr (by simp)))
  have e1 : ((((w1.setCell ⟨w.heap.size + 1 + 1, 2, none⟩ (.slice (some ⟨b2, 0, none⟩) n2 n2)).setCell ⟨w.heap.size + 1, 0, none⟩ (.int .i64 x0)).setCell ⟨w.heap.size + 1, 1, none⟩ (.int .i64 x1)).setCell ⟨w.heap.size + 1, 2, none⟩ (.slice (some ⟨b2, 0, none⟩) n2 n2)).cell? ⟨w.heap.size + 1, 1, none⟩ = some (.int .i64 x1) := (cell_set (World.cell?_setCell_same _ _ (.int .i64 x1) (cell_set (cell_set t1 ⟨w.heap.size + 1 + 1, 2, none⟩ (.slice (some ⟨b2, 0, none⟩) n2 n2) (.inl (by simp))) ⟨w.heap.size + 1, 0, none⟩ (.int .i64 x0) (.inr (by simp)))) ⟨w.heap.size + 1, 2, none⟩ (.slice (some ⟨b2, 0, none⟩) n2 n2) (.inr (by simp)))
  have e2 : ((((w1.setCell ⟨w.heap.size + 1 + 1, 2, none⟩ (.slice (some ⟨b2, 0, none⟩) n2 n2)).setCell ⟨w.heap.size + 1, 0, none⟩ (.int .i64 x0)).setCell ⟨w.heap.size + 1, 1, none⟩ (.int .i64 x1)).setCell ⟨w.heap.size + 1, 2, none⟩ (.slice (some ⟨b2, 0, none⟩) n2 n2)).cell? ⟨w.heap.size + 1, 2, none⟩ = some (.slice (some ⟨b2, 0, none⟩) n2 n2) := (World.cell?_setCell_same _ _ (.slice (some ⟨b2, 0, none⟩) n2 n2) (cell_set (cell_set (cell_set t2 ⟨w.heap.size + 1 + 1, 2, none⟩ (.slice (some ⟨b2, 0, none⟩) n2 n2) (.inl (by simp))) ⟨w.heap.size + 1, 0, none⟩ (.int .i64 x0) (.inr (by simp))) ⟨w.heap.size + 1, 1, none⟩ (.int .i64 x1) (.inr (by simp))))
  have zs0 := m1.size
  have zw : ((((w1.setCell ⟨w.heap.size + 1 + 1, 2, none⟩ (.slice (some ⟨b2, 0, none⟩) n2 n2)).setCell ⟨w.heap.size + 1, 0, none⟩ (.int .i64 x0)).setCell ⟨w.heap.size + 1, 1, none⟩ (.int .i64 x1)).setCell ⟨w.heap.size + 1, 2, none⟩ (.slice (some ⟨b2, 0, none⟩) n2 n2)).heap.size = w1.heap.size := by simp [World.setCell]
  clear t0 t1 t2 N0 N1 M0 M1 M2
  clear m1
  generalize ((((w1.setCell ⟨w.heap.size + 1 + 1, 2, none⟩ (.slice (some ⟨b2, 0, none⟩) n2 n2)).setCell ⟨w.heap.size + 1, 0, none⟩ (.int .i64 x0)).setCell ⟨w.heap.size + 1, 1, none⟩ (.int .i64 x1)).setCell ⟨w.heap.size + 1, 2, none⟩ (.slice (some ⟨b2, 0, none⟩) n2 n2)) = WF at *
  refine bodyPost_ret (v := .agg #[.int .i64 x0, .int .i64 x1, .slice (some ⟨b2, 0, none⟩) n2 n2]) (by simp [results, Try.results74, go_sem, e0, e1, e2]) rfl ⟨b2, rfl, ?_, ?_, N2⟩
  · exact o0.wide (by first | (simp; done) | (simp; omega) | (rw [World.size_set]; exact Nat.le_refl _)) (by first | exact Nat.le_refl _ | (rw [zw]; exact Nat.le_refl _) | omega)
  · simp at zs0 ⊢; omega

set_option maxRecDepth 100000 in
set_option maxHeartbeats 1600000 in
theorem eqSegmentC (x0 x1 : Int) (a2 a2' : Option Addr) (n2 c2 c2' : Nat) (z2 : List THop) (B B' : Nat) (w : World) (h2 : HasHop w B a2 n2 z2) (h2' : HasHop w B' a2' n2 z2) (hB : B ≤ w.heap.size) (hB' : B' ≤ w.heap.size) (hn2 : n2 ≤ 1048576) :
    Calls Try.prog 51 #[.agg #[.int .i64 x0, .int .i64 x1, .slice a2 n2 c2], .agg #[.int .i64 x0, .int .i64 x1, .slice a2' n2 c2']] w fun e w' => e = .returned (.bool true) ∧ Mk0 w w' := by
  go_enter Try.func51, Try.ntmps51
  go_wp2_with fail
  have M0 := (Mk.alloc w (Obj.cells #[Value.int .i64 x0, Value.int .i64 x1, Value.slice a2 n2 c2] 82)).new (Obj.cells #[Value.int .i64 x0, Value.int .i64 x1, Value.slice a2' n2 c2'] 82)
  refine (eqHopS a2 a2' n2 c2 c2' B B' z2 _ (h2.mk M0 hB (.inr (Nat.le_refl _))) (h2'.mk M0 hB' (.inr (Nat.le_refl _))) (by have := M0.size; omega) (by have := M0.size; omega) (by omega)).mono ?_
  rintro e w1 ⟨rfl, m1⟩
  have M1 := M0.trans m1
  obtain ⟨q1, r1⟩ := m1.kept
  have y0 : w.heap.size < w1.heap.size := by have := m1.size; simp at this; omega
  have y1 : w.heap.size + 1 < w1.heap.size := by have := m1.size; simp at this; omega
  go_wp2_with fail
  go_ret
  exact ⟨rfl, M1⟩

set_option maxRecDepth 100000 in
set_option maxHeartbeats 1600000 in
theorem szSegmentC (x0 x1 : Int) (a2 : Option Addr) (n2 c2 : Nat) (l : Int) (w : World) (hq0 : 0 ≤ l) (hq1 : l ≤ 1048576) (hn : (n2 : Int) ≤ l) :
    Calls Try.prog 72 #[.agg #[.int .i64 x0, .int .i64 x1, .slice a2 n2 c2], .int .i64 l] w fun e w' => ∃ l' : Int, l' = l - n2 ∧ e = .returned (.int .i64 l') ∧ Mk0 w w' := by
  go_enter Try.func72, Try.ntmps72
  go_wp2_with fail
  refine (szHopSC a2 n2 c2 _ _ (by omega) (by omega) (by omega)).mono ?_
  rintro e w' ⟨rfl, rfl⟩
  go_wp2_with fail
  go_ret
  exact ⟨_, rfl, rfl, Mk.alloc _ _⟩

set_option maxRecDepth 100000 in
set_option maxHeartbeats 1600000 in
theorem szSegmentB (x0 x1 : Int) (a2 : Option Addr) (n2 c2 : Nat) (l : Int) (w : World) (hq0 : 0 ≤ l) (hq1 : l ≤ 1048576) (hn : l < (n2 : Int)) (hm2 : n2 ≤ 9223372036854775807) :
    Calls Try.prog 72 #[.agg #[.int .i64 x0, .int .i64 x1, .slice a2 n2 c2], .int .i64 l] w fun e w' => e = .returned (.int .i64 (-1)) ∧ Mk0 w w' := by
  go_enter Try.func72, Try.ntmps72
  go_wp2_with fail
  refine (szHopSB a2 n2 c2 _ _ (by omega) (by omega) (by omega) hm2).mono ?_
  rintro e w' ⟨rfl, rfl⟩
  go_wp2_with fail
  go_ret
  exact ⟨rfl, Mk.alloc _ _⟩
end Go.Proofs.Ytdlafigjkefllaa
