
/- Topology by value: the laws' copy, equality and size. -/
import Derived.Test.YtdhdkhnefnbdgaaGreatDoorZAS
import Derived.Test.YtdhdkhnefnbdgaaGreatDoorZLink
import Derived.Test.YtdhdkhnefnbdgaaGreatDoorSAS
import Derived.Test.YtdhdkhnefnbdgaaGreatDoorSLink
namespace Go.Proofs.YtdhdkhnefnbdgaaGreatDoor
open Go.ChangeShapes Go.WideShapes Go.ChangeAt Go.RowKit
set_option linter.unusedVariables false

set_option maxRecDepth 100000 in
set_option maxHeartbeats 1600000 in
theorem toTopologyC (a0 : Option Addr) (n0 c0 : Nat) (z0 : List TAS) (a1 : Option Addr) (n1 c1 : Nat) (z1 : List TLink) (B : Nat) (w : World) (h0 : HasAS w B a0 n0 z0) (h1 : HasLink w B a1 n1 z1) (hB : B ≤ w.heap.size) (hn0 : n0 ≤ 1048576) (hn1 : n1 ≤ 1048576) :
    Calls Tryz.prog 8 #[.agg #[.slice a0 n0 c0, .slice a1 n1 c1]] w fun e w' => ∃ b0 b1 m0, e = .returned (.agg #[.slice (some ⟨b0, 0, none⟩) n0 n0, .slice (some ⟨b1, 0, none⟩) n1 n1]) ∧
      OwnAS w' w.heap.size m0 (some ⟨b0, 0, none⟩) n0 z0 ∧ OwnLink w' m0 w'.heap.size (some ⟨b1, 0, none⟩) n1 z1 ∧ w.heap.size ≤ m0 ∧ m0 ≤ w'.heap.size ∧ Mk0 w w' := by
  go_enter Tryz.func8, Tryz.ntmps8
  go_wp2_with fail
  have M0 := ((Mk.alloc w (Obj.cells #[Value.slice a0 n0 c0, Value.slice a1 n1 c1] 25)).new (Obj.cells #[Value.slice none 0 0, Value.slice none 0 0] 35)).new (Obj.cells #[Value.slice none 0 0, Value.slice none 0 0] 35)
  refine (toASS a0 n0 c0 B z0 _ (h0.mk M0 hB (.inr (Nat.le_refl _))) (by have := M0.size; omega) hn0).mono ?_
  rintro e w1 ⟨b0, rfl, o0, m1⟩
  have M1 := M0.trans m1
  obtain ⟨q1, r1⟩ := m1.kept
  have y0 : w.heap.size < w1.heap.size := by have := m1.size; simp at this; omega
  have y1 : w.heap.size + 1 < w1.heap.size := by have := m1.size; simp at this; omega
  have y2 : w.heap.size + 1 + 1 < w1.heap.size := by have := m1.size; simp at this; omega
  go_wp2_with fail
  have M2 := M1.put ⟨w.heap.size + 1 + 1, 0, none⟩ (.slice (some ⟨b0, 0, none⟩) n0 n0) (by simp; omega)
  have o0 := o0.set ⟨w.heap.size + 1 + 1, 0, none⟩ (.slice (some ⟨b0, 0, none⟩) n0 n0) (.inl (by first | (simp; done) | (simp; omega) | (rw [World.size_set]; simp; omega)))
  refine (toLinkS a1 n1 c1 B z1 _ (h1.mk M2 hB (.inr (Nat.le_refl _))) (by have := M2.size; omega) hn1).mono ?_
  rintro e w2 ⟨b1, rfl, o1, m2⟩
  have M3 := M2.trans m2
  obtain ⟨q2, r2⟩ := m2.kept
  have y3 : w.heap.size < w2.heap.size := by have := m2.size; rw [World.size_set] at this; omega
  have y4 : w.heap.size + 1 < w2.heap.size := by have := m2.size; rw [World.size_set] at this; omega
  have y5 : w.heap.size + 1 + 1 < w2.heap.size := by have := m2.size; rw [World.size_set] at this; omega
  have o0 := o0.mk m2 (by rw [World.size_set]; have := M1.size; omega) (.inr (.inr (Nat.le_refl _)))
  go_wp2_with fail
  have M4 := M3.put ⟨w.heap.size + 1 + 1, 1, none⟩ (.slice (some ⟨b1, 0, none⟩) n1 n1) (by simp; omega)
  have o0 := o0.set ⟨w.heap.size + 1 + 1, 1, none⟩ (.slice (some ⟨b1, 0, none⟩) n1 n1) (.inl (by first | (simp; done) | (simp; omega) | (rw [World.size_set]; simp; omega)))
  have o1 := o1.set ⟨w.heap.size + 1 + 1, 1, none⟩ (.slice (some ⟨b1, 0, none⟩) n1 n1) (.inl (by first | (simp; done) | (simp; omega) | (rw [World.size_set]; simp; omega)))
  have t0 : w2.cell? ⟨w.heap.size + 1, 0, none⟩ = some (.slice none 0 0) := by rw [q2 _ _ (by rw [World.size_set]; omega), World.cell?_setCell_other _ _ _ _ (by simp), q1 _ _ (by simp)]; simp [go_sem]
  have t1 : w2.cell? ⟨w.heap.size + 1, 1, none⟩ = some (.slice none 0 0) := by rw [q2 _ _ (by rw [World.size_set]; omega), World.cell?_setCell_other _ _ _ _ (by simp), q1 _ _ (by simp)]; simp [go_sem]
  clear q1 r1 q2 r2
  have N0 := M4.put ⟨w.heap.size + 1, 0, none⟩ (.slice (some ⟨b0, 0, none⟩) n0 n0) (by simp)
  have N1 := N0.put ⟨w.heap.size + 1, 1, none⟩ (.slice (some ⟨b1, 0, none⟩) n1 n1) (by simp)
  have o0 := o0.set ⟨w.heap.size + 1, 0, none⟩ (.slice (some ⟨b0, 0, none⟩) n0 n0) (.inl (by first | (simp; done) | (simp; omega) | (rw [World.size_set]; simp; omega)))
  have o0 := o0.set ⟨w.heap.size + 1, 1, none⟩ (.slice (some ⟨b1, 0, none⟩) n1 n1) (.inl (by first | (simp; done) | (simp; omega) | (rw [World.size_set]; simp; omega)))
  have o1 := o1.set ⟨w.heap.size + 1, 0, none⟩ (.slice (some ⟨b0, 0, none⟩) n0 n0) (.inl (by first | (simp; done) | (simp; omega) | (rw [World.size_set]; simp; omega)))
  have o1 := o1.set ⟨w.heap.size + 1, 1, none⟩ (.slice (some ⟨b1, 0, none⟩) n1 n1) (.inl (by first | (simp; done) | (simp; omega) | (rw [World.size_set]; simp; omega)))
  have e0 : (((w2.setCell ⟨w.heap.size + 1 + 1, 1, none⟩ (.slice (some ⟨b1, 0, none⟩) n1 n1)).setCell ⟨w.heap.size + 1, 0, none⟩ (.slice (some ⟨b0, 0, none⟩) n0 n0)).setCell ⟨w.heap.size + 1, 1, none⟩ (.slice (some ⟨b1, 0, none⟩) n1 n1)).cell? ⟨w.heap.size + 1, 0, none⟩ = some (.slice (some ⟨b0, 0, none⟩) n0 n0) := (cell_set (World.cell?_setCell_same _ _ (.slice (some ⟨b0, 0, none⟩) n0 n0) (cell_set t0 ⟨w.heap.size + 1 + 1, 1, none⟩ (.slice (some ⟨b1, 0, none⟩) n1 n1) (.inl (by simp)))) ⟨w.heap.size + 1, 1, none⟩ (.slice (some ⟨b1, 0, none⟩) n1 n1) (.inr (by simp)))
  have e1 : (((w2.setCell ⟨w.heap.size + 1 + 1, 1, none⟩ (.slice (some ⟨b1, 0, none⟩) n1 n1)).setCell ⟨w.heap.size + 1, 0, none⟩ (.slice (some ⟨b0, 0, none⟩) n0 n0)).setCell ⟨w.heap.size + 1, 1, none⟩ (.slice (some ⟨b1, 0, none⟩) n1 n1)).cell? ⟨w.heap.size + 1, 1, none⟩ = some (.slice (some ⟨b1, 0, none⟩) n1 n1) := (World.cell?_setCell_same _ _ (.slice (some ⟨b1, 0, none⟩) n1 n1) (cell_set (cell_set t1 ⟨w.heap.size + 1 + 1, 1, none⟩ (.slice (some ⟨b1, 0, none⟩) n1 n1) (.inl (by simp))) ⟨w.heap.size + 1, 0, none⟩ (.slice (some ⟨b0, 0, none⟩) n0 n0) (.inr (by simp))))
  have zs0 := m1.size
  have zs1 := m2.size
  have zw : (((w2.setCell ⟨w.heap.size + 1 + 1, 1, none⟩ (.slice (some ⟨b1, 0, none⟩) n1 n1)).setCell ⟨w.heap.size + 1, 0, none⟩ (.slice (some ⟨b0, 0, none⟩) n0 n0)).setCell ⟨w.heap.size + 1, 1, none⟩ (.slice (some ⟨b1, 0, none⟩) n1 n1)).heap.size = w2.heap.size := by simp [World.setCell]
  clear t0 t1 N0 M0 M1 M2 M3 M4
  clear m1 m2
  generalize (((w2.setCell ⟨w.heap.size + 1 + 1, 1, none⟩ (.slice (some ⟨b1, 0, none⟩) n1 n1)).setCell ⟨w.heap.size + 1, 0, none⟩ (.slice (some ⟨b0, 0, none⟩) n0 n0)).setCell ⟨w.heap.size + 1, 1, none⟩ (.slice (some ⟨b1, 0, none⟩) n1 n1)) = WF at *
  refine bodyPost_ret (v := .agg #[.slice (some ⟨b0, 0, none⟩) n0 n0, .slice (some ⟨b1, 0, none⟩) n1 n1]) (by simp [results, Tryz.results8, go_sem, e0, e1]) rfl ⟨b0, b1, w1.heap.size, rfl, ?_, ?_, ?_, ?_, N1⟩
  · exact o0.wide (by first | (simp; done) | (simp; omega) | (rw [World.size_set]; exact Nat.le_refl _)) (by first | exact Nat.le_refl _ | (rw [zw]; exact Nat.le_refl _) | omega)
  · exact o1.wide (by first | (simp; done) | (simp; omega) | (rw [World.size_set]; exact Nat.le_refl _)) (by first | exact Nat.le_refl _ | (rw [zw]; exact Nat.le_refl _) | omega)
  · simp at zs0 ⊢; omega
  · simp [World.setCell] at zs1 ⊢; omega

set_option maxRecDepth 100000 in
set_option maxHeartbeats 1600000 in
theorem eqTopologyC (a0 a0' : Option Addr) (n0 c0 c0' : Nat) (z0 : List TAS) (a1 a1' : Option Addr) (n1 c1 c1' : Nat) (z1 : List TLink) (B B' : Nat) (w : World) (h0 : HasAS w B a0 n0 z0) (h1 : HasLink w B a1 n1 z1) (h0' : HasAS w B' a0' n0 z0) (h1' : HasLink w B' a1' n1 z1) (hB : B ≤ w.heap.size) (hB' : B' ≤ w.heap.size) (hn0 : n0 ≤ 1048576) (hn1 : n1 ≤ 1048576) :
    Calls Tryz.prog 11 #[.agg #[.slice a0 n0 c0, .slice a1 n1 c1], .agg #[.slice a0' n0 c0', .slice a1' n1 c1']] w fun e w' => e = .returned (.bool true) ∧ Mk0 w w' := by
  go_enter Tryz.func11, Tryz.ntmps11
  go_wp2_with fail
  have M0 := (Mk.alloc w (Obj.cells #[Value.slice a0 n0 c0, Value.slice a1 n1 c1] 35)).new (Obj.cells #[Value.slice a0' n0 c0', Value.slice a1' n1 c1'] 35)
  refine (eqASS a0 a0' n0 c0 c0' B B' z0 _ (h0.mk M0 hB (.inr (Nat.le_refl _))) (h0'.mk M0 hB' (.inr (Nat.le_refl _))) (by have := M0.size; omega) (by have := M0.size; omega) (by omega)).mono ?_
  rintro e w1 ⟨rfl, m1⟩
  have M1 := M0.trans m1
  obtain ⟨q1, r1⟩ := m1.kept
  have y0 : w.heap.size < w1.heap.size := by have := m1.size; simp at this; omega
  have y1 : w.heap.size + 1 < w1.heap.size := by have := m1.size; simp at this; omega
  go_wp2_with fail
  refine (eqLinkS a1 a1' n1 c1 c1' B B' z1 _ (h1.mk M1 hB (.inr (Nat.le_refl _))) (h1'.mk M1 hB' (.inr (Nat.le_refl _))) (by have := M1.size; omega) (by have := M1.size; omega) (by omega)).mono ?_
  rintro e w2 ⟨rfl, m2⟩
  have M2 := M1.trans m2
  obtain ⟨q2, r2⟩ := m2.kept
  go_wp2_with fail
  go_ret
  exact ⟨rfl, M2⟩

set_option maxRecDepth 100000 in
set_option maxHeartbeats 1600000 in
theorem szTopologyC (a0 : Option Addr) (n0 c0 : Nat) (a1 : Option Addr) (n1 c1 : Nat) (l : Int) (w : World) (hq0 : 0 ≤ l) (hq1 : l ≤ 1048576) (hn : (n0 : Int) + (n1 : Int) ≤ l) :
    Calls Tryz.prog 5 #[.agg #[.slice a0 n0 c0, .slice a1 n1 c1], .int .i64 l] w fun e w' => ∃ l' : Int, l' = (l - n0) - n1 ∧ e = .returned (.int .i64 l') ∧ Mk0 w w' := by
  go_enter Tryz.func5, Tryz.ntmps5
  go_wp2_with fail
  refine (szASSC a0 n0 c0 _ _ (by omega) (by omega) (by omega)).mono ?_
  rintro e w' ⟨rfl, rfl⟩
  go_wp2_with fail
  refine (szLinkSC a1 n1 c1 _ _ (by omega) (by omega) (by omega)).mono ?_
  rintro e w' ⟨rfl, rfl⟩
  go_wp2_with fail
  go_ret
  exact ⟨_, rfl, rfl, Mk.alloc _ _⟩

set_option maxRecDepth 100000 in
set_option maxHeartbeats 1600000 in
theorem szTopologyB (a0 : Option Addr) (n0 c0 : Nat) (a1 : Option Addr) (n1 c1 : Nat) (l : Int) (w : World) (hq0 : 0 ≤ l) (hq1 : l ≤ 1048576) (hn : l < (n0 : Int) + (n1 : Int)) (hm0 : n0 ≤ 9223372036854775807) (hm1 : n1 ≤ 9223372036854775807) :
    Calls Tryz.prog 5 #[.agg #[.slice a0 n0 c0, .slice a1 n1 c1], .int .i64 l] w fun e w' => e = .returned (.int .i64 (-1)) ∧ Mk0 w w' := by
  by_cases hp0 : l < (n0 : Int)
  · go_enter Tryz.func5, Tryz.ntmps5
    go_wp2_with fail
    refine (szASSB a0 n0 c0 _ _ (by omega) (by omega) (by omega) hm0).mono ?_
    rintro e w' ⟨rfl, rfl⟩
    go_wp2_with fail
    go_ret
    exact ⟨rfl, Mk.alloc _ _⟩
  go_enter Tryz.func5, Tryz.ntmps5
  go_wp2_with fail
  refine (szASSC a0 n0 c0 _ _ (by omega) (by omega) (by omega)).mono ?_
  rintro e w' ⟨rfl, rfl⟩
  go_wp2_with fail
  refine (szLinkSB a1 n1 c1 _ _ (by omega) (by omega) (by omega) hm1).mono ?_
  rintro e w' ⟨rfl, rfl⟩
  go_wp2_with fail
  go_ret
  exact ⟨rfl, Mk.alloc _ _⟩
end Go.Proofs.YtdhdkhnefnbdgaaGreatDoor
