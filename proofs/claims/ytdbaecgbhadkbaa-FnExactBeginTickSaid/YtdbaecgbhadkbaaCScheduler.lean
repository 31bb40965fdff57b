
/- Scheduler by value: the laws' copy, equality and size. -/
import Derived.Test.YtdbaecgbhadkbaaZReservation
import Derived.Test.YtdbaecgbhadkbaaZUsage
import Derived.Test.YtdbaecgbhadkbaaSReservation
import Derived.Test.YtdbaecgbhadkbaaSUsage
namespace Go.Proofs.Ytdbaecgbhadkbaa
open Go.ChangeShapes Go.WideShapes Go.ChangeAt Go.RowKit
set_option linter.unusedVariables false

set_option maxRecDepth 100000 in
set_option maxHeartbeats 1600000 in
theorem toSchedulerC (x0 : Int) (a1 : Option Addr) (n1 c1 : Nat) (z1 : List TReservation) (a2 : Option Addr) (n2 c2 : Nat) (z2 : List TUsage) (B : Nat) (w : World) (h1 : HasReservation w B a1 n1 z1) (h2 : HasUsage w B a2 n2 z2) (hB : B ≤ w.heap.size) (hn1 : n1 ≤ 1048576) (hn2 : n2 ≤ 1048576) :
    Calls Try.prog 61 #[.agg #[.int .i64 x0, .slice a1 n1 c1, .slice a2 n2 c2]] w fun e w' => ∃ b1 b2 m1, e = .returned (.agg #[.int .i64 x0, .slice (some ⟨b1, 0, none⟩) n1 n1, .slice (some ⟨b2, 0, none⟩) n2 n2]) ∧
      OwnReservation w' w.heap.size m1 (some ⟨b1, 0, none⟩) n1 z1 ∧ OwnUsage w' m1 w'.heap.size (some ⟨b2, 0, none⟩) n2 z2 ∧ w.heap.size ≤ m1 ∧ m1 ≤ w'.heap.size ∧ Mk0 w w' := by
  go_enter Try.func61, Try.ntmps61
  go_wp2_with fail
  have M0 := ((Mk.alloc w (Obj.cells #[Value.int .i64 x0, Value.slice a1 n1 c1, Value.slice a2 n2 c2] 80)).new (Obj.cells #[Value.int .i64 0, Value.slice none 0 0, Value.slice none 0 0] 73)).new (Obj.cells #[Value.int .i64 x0, Value.slice none 0 0, Value.slice none 0 0] 73)
  refine (toReservationS a1 n1 c1 B z1 _ (h1.mk M0 hB (.inr (Nat.le_refl _))) (by have := M0.size; omega) hn1).mono ?_
  rintro e w1 ⟨b1, rfl, o0, m1⟩
  have M1 := M0.trans m1
  obtain ⟨q1, r1⟩ := m1.kept
  have y0 : w.heap.size < w1.heap.size := by have := m1.size; simp at this; omega
  have y1 : w.heap.size + 1 < w1.heap.size := by have := m1.size; simp at this; omega
  have y2 : w.heap.size + 1 + 1 < w1.heap.size := by have := m1.size; simp at this; omega
  go_wp2_with fail
  have M2 := M1.put ⟨w.heap.size + 1 + 1, 1, none⟩ (.slice (some ⟨b1, 0, none⟩) n1 n1) (by simp; omega)
  have o0 := o0.set ⟨w.heap.size + 1 + 1, 1, none⟩ (.slice (some ⟨b1, 0, none⟩) n1 n1) (.inl (by first | (simp; done) | (simp; omega) | (rw [World.size_set]; simp; omega)))
  refine (toUsageS a2 n2 c2 B z2 _ (h2.mk M2 hB (.inr (Nat.le_refl _))) (by have := M2.size; omega) hn2).mono ?_
  rintro e w2 ⟨b2, rfl, o1, m2⟩
  have M3 := M2.trans m2
  obtain ⟨q2, r2⟩ := m2.kept
  have y3 : w.heap.size < w2.heap.size := by have := m2.size; rw [World.size_set] at this; omega
  have y4 : w.heap.size + 1 < w2.heap.size := by have := m2.size; rw [World.size_set] at this; omega
  have y5 : w.heap.size + 1 + 1 < w2.heap.size := by have := m2.size; rw [World.size_set] at this; omega
  have o0 := o0.mk m2 (by rw [World.size_set]; have := M1.size; omega) (.inr (.inr (Nat.le_refl _)))
  go_wp2_with fail
  have M4 := M3.put ⟨w.heap.size + 1 + 1, 2, none⟩ (.slice (some ⟨b2, 0, none⟩) n2 n2) (by simp; omega)
  have o0 := o0.set ⟨w.heap.size + 1 + 1, 2, none⟩ (.slice (some ⟨b2, 0, none⟩) n2 n2) (.inl (by first | (simp; done) | (simp; omega) | (rw [World.size_set]; simp; omega)))
  have o1 := o1.set ⟨w.heap.size + 1 + 1, 2, none⟩ (.slice (some ⟨b2, 0, none⟩) n2 n2) (.inl (by first | (simp; done) | (simp; omega) | (rw [World.size_set]; simp; omega)))
  have t0 : w2.cell? ⟨w.heap.size + 1, 0, none⟩ = some (.int .i64 0) := by rw [q2 _ _ (by rw [World.size_set]; omega), World.cell?_setCell_other _ _ _ _ (by simp), q1 _ _ (by simp)]; simp [go_sem]
  have t1 : w2.cell? ⟨w.heap.size + 1, 1, none⟩ = some (.slice none 0 0) := by rw [q2 _ _ (by rw [World.size_set]; omega), World.cell?_setCell_other _ _ _ _ (by simp), q1 _ _ (by simp)]; simp [go_sem]
  have t2 : w2.cell? ⟨w.heap.size + 1, 2, none⟩ = some (.slice none 0 0) := by rw [q2 _ _ (by rw [World.size_set]; omega), World.cell?_setCell_other _ _ _ _ (by simp), q1 _ _ (by simp)]; simp [go_sem]
  clear q1 r1 q2 r2
  have N0 := M4.put ⟨w.heap.size + 1, 0, none⟩ (.int .i64 x0) (by simp)
  have N1 := N0.put ⟨w.heap.size + 1, 1, none⟩ (.slice (some ⟨b1, 0, none⟩) n1 n1) (by simp)
  have N2 := N1.put ⟨w.heap.size + 1, 2, none⟩ (.slice (some ⟨b2, 0, none⟩) n2 n2) (by simp)
  have o0 := o0.set ⟨w.heap.size + 1, 0, none⟩ (.int .i64 x0) (.inl (by first | (simp; done) | (simp; omega) | (rw [World.size_set]; simp; omega)))
  have o0 := o0.set ⟨w.heap.size + 1, 1, none⟩ (.slice (some ⟨b1, 0, none⟩) n1 n1) (.inl (by first | (simp; done) | (simp; omega) | (rw [World.size_set]; simp; omega)))
  have o0 := o0.set ⟨w.heap.size + 1, 2, none⟩ (.slice (some ⟨b2, 0, none⟩) n2 n2) (.inl (by first | (simp; done) | (simp; omega) | (rw [World.size_set]; simp; omega)))
  have o1 := o1.set ⟨w.heap.size + 1, 0, none⟩ (.int .i64 x0) (.inl (by first | (simp; done) | (simp; omega) | (rw [World.size_set]; simp; omega)))
  have o1 := o1.set ⟨w.heap.size + 1, 1, none⟩ (.slice (some ⟨b1, 0, none⟩) n1 n1) (.inl (by first | (simp; done) | (simp; omega) | (rw [World.size_set]; simp; omega)))
  have o1 := o1.set ⟨w.heap.size + 1, 2, none⟩ (.slice (some ⟨b2, 0, none⟩) n2 n2) (.inl (by first | (simp; done) | (simp; omega) | (rw [World.size_set]; simp; omega)))
  have e0 : ((((w2.setCell ⟨w.heap.size + 1 + 1, 2, none⟩ (.slice (some ⟨b2, 0, none⟩) n2 n2)).setCell ⟨w.heap.size + 1, 0, none⟩ (.int .i64 x0)).setCell ⟨w.heap.size + 1, 1, none⟩ (.slice (some ⟨b1, 0, none⟩) n1 n1)).setCell ⟨w.heap.size + 1, 2, none⟩ (.slice (some ⟨b2, 0, none⟩) n2 n2)).cell? ⟨w.heap.size + 1, 0, none⟩ = some (.int .i64 x0) := (cell_set (cell_set (World.cell?_setCell_same _ _ (.int .i64 x0) (cell_set t0 ⟨w.heap.size + 1 + 1, 2, none⟩ (.slice (some ⟨b2, 0, none⟩) n2 n2) (.inl (by simp)))) ⟨w.heap.size + 1, 1, none⟩ (.slice (some ⟨b1, 0, none⟩) n1 n1) (.inr (by simp))) ⟨w.heap.size + 1, 2, none⟩ (.slice (some ⟨b2, 0, none⟩) n2 n2) (.inr (by simp)))
  have e1 : ((((w2.setCell ⟨w.heap.size + 1 + 1, 2, none⟩ (.slice (some ⟨b2, 0, none⟩) n2 n2)).setCell ⟨w.heap.size + 1, 0, none⟩ (.int .i64 x0)).setCell ⟨w.heap.size + 1, 1, none⟩ (.slice (some ⟨b1, 0, none⟩) n1 n1)).setCell ⟨w.heap.size + 1, 2, none⟩ (.slice (some ⟨b2, 0, none⟩) n2 n2)).cell? ⟨w.heap.size + 1, 1, none⟩ = some (.slice (some ⟨b1, 0, none⟩) n1 n1) := (cell_set (World.cell?_setCell_same _ _ (.slice (some ⟨b1, 0, none⟩) n1 n1) (cell_set (cell_set t1 ⟨w.heap.size + 1 + 1, 2, none⟩ (.slice (some ⟨b2, 0, none⟩) n2 n2) (.inl (by simp))) ⟨w.heap.size + 1, 0, none⟩ (.int .i64 x0) (.inr (by simp)))) ⟨w.heap.size + 1, 2, none⟩ (.slice (some ⟨b2, 0, none⟩) n2 n2) (.inr (by simp)))
  have e2 : ((((w2.setCell ⟨w.heap.size + 1 + 1, 2, none⟩ (.slice (some ⟨b2, 0, none⟩) n2 n2)).setCell ⟨w.heap.size + 1, 0, none⟩ (.int .i64 x0)).setCell ⟨w.heap.size + 1, 1, none⟩ (.slice (some ⟨b1, 0, none⟩) n1 n1)).setCell ⟨w.heap.size + 1, 2, none⟩ (.slice (some ⟨b2, 0, none⟩) n2 n2)).cell? ⟨w.heap.size + 1, 2, none⟩ = some (.slice (some ⟨b2, 0, none⟩) n2 n2) := (World.cell?_setCell_same _ _ (.slice (some ⟨b2, 0, none⟩) n2 n2) (cell_set (cell_set (cell_set t2 ⟨w.heap.size + 1 + 1, 2, none⟩ (.slice (some ⟨b2, 0, none⟩) n2 n2) (.inl (by simp))) ⟨w.heap.size + 1, 0, none⟩ (.int .i64 x0) (.inr (by simp))) ⟨w.heap.size + 1, 1, none⟩ (.slice (some ⟨b1, 0, none⟩) n1 n1) (.inr (by simp))))
  have zs0 := m1.size
  have zs1 := m2.size
  have zw : ((((w2.setCell ⟨w.heap.size + 1 + 1, 2, none⟩ (.slice (some ⟨b2, 0, none⟩) n2 n2)).setCell ⟨w.heap.size + 1, 0, none⟩ (.int .i64 x0)).setCell ⟨w.heap.size + 1, 1, none⟩ (.slice (some ⟨b1, 0, none⟩) n1 n1)).setCell ⟨w.heap.size + 1, 2, none⟩ (.slice (some ⟨b2, 0, none⟩) n2 n2)).heap.size = w2.heap.size := by simp [World.setCell]
  clear t0 t1 t2 N0 N1 M0 M1 M2 M3 M4
  clear m1 m2
  generalize ((((w2.setCell ⟨w.heap.size + 1 + 1, 2, none⟩ (.slice (some ⟨b2, 0, none⟩) n2 n2)).setCell ⟨w.heap.size + 1, 0, none⟩ (.int .i64 x0)).setCell ⟨w.heap.size + 1, 1, none⟩ (.slice (some ⟨b1, 0, none⟩) n1 n1)).setCell ⟨w.heap.size + 1, 2, none⟩ (.slice (some ⟨b2, 0, none⟩) n2 n2)) = WF at *
  refine bodyPost_ret (v := .agg #[.int .i64 x0, .slice (some ⟨b1, 0, none⟩) n1 n1, .slice (some ⟨b2, 0, none⟩) n2 n2]) (by simp [results, Try.results61, go_sem, e0, e1, e2]) rfl ⟨b1, b2, w1.heap.size, rfl, ?_, ?_, ?_, ?_, N2⟩
  · exact o0.wide (by first | (simp; done) | (simp; omega) | (rw [World.size_set]; exact Nat.le_refl _)) (by first | exact Nat.le_refl _ | (rw [zw]; exact Nat.le_refl _) | omega)
  · exact o1.wide (by first | (simp; done) | (simp; omega) | (rw [World.size_set]; exact Nat.le_refl _)) (by first | exact Nat.le_refl _ | (rw [zw]; exact Nat.le_refl _) | omega)
  · simp at zs0 ⊢; omega
  · simp [World.setCell] at zs1 ⊢; omega

set_option maxRecDepth 100000 in
set_option maxHeartbeats 1600000 in
theorem eqSchedulerC (x0 : Int) (a1 a1' : Option Addr) (n1 c1 c1' : Nat) (z1 : List TReservation) (a2 a2' : Option Addr) (n2 c2 c2' : Nat) (z2 : List TUsage) (B B' : Nat) (w : World) (h1 : HasReservation w B a1 n1 z1) (h2 : HasUsage w B a2 n2 z2) (h1' : HasReservation w B' a1' n1 z1) (h2' : HasUsage w B' a2' n2 z2) (hB : B ≤ w.heap.size) (hB' : B' ≤ w.heap.size) (hn1 : n1 ≤ 1048576) (hn2 : n2 ≤ 1048576) :
    Calls Try.prog 56 #[.agg #[.int .i64 x0, .slice a1 n1 c1, .slice a2 n2 c2], .agg #[.int .i64 x0, .slice a1' n1 c1', .slice a2' n2 c2']] w fun e w' => e = .returned (.bool true) ∧ Mk0 w w' := by
  go_enter Try.func56, Try.ntmps56
  go_wp2_with fail
  have M0 := (Mk.alloc w (Obj.cells #[Value.int .i64 x0, Value.slice a1 n1 c1, Value.slice a2 n2 c2] 73)).new (Obj.cells #[Value.int .i64 x0, Value.slice a1' n1 c1', Value.slice a2' n2 c2'] 73)
  refine (eqReservationS a1 a1' n1 c1 c1' B B' z1 _ (h1.mk M0 hB (.inr (Nat.le_refl _))) (h1'.mk M0 hB' (.inr (Nat.le_refl _))) (by have := M0.size; omega) (by have := M0.size; omega) (by omega)).mono ?_
  rintro e w1 ⟨rfl, m1⟩
  have M1 := M0.trans m1
  obtain ⟨q1, r1⟩ := m1.kept
  have y0 : w.heap.size < w1.heap.size := by have := m1.size; simp at this; omega
  have y1 : w.heap.size + 1 < w1.heap.size := by have := m1.size; simp at this; omega
  go_wp2_with fail
  refine (eqUsageS a2 a2' n2 c2 c2' B B' z2 _ (h2.mk M1 hB (.inr (Nat.le_refl _))) (h2'.mk M1 hB' (.inr (Nat.le_refl _))) (by have := M1.size; omega) (by have := M1.size; omega) (by omega)).mono ?_
  rintro e w2 ⟨rfl, m2⟩
  have M2 := M1.trans m2
  obtain ⟨q2, r2⟩ := m2.kept
  go_wp2_with fail
  go_ret
  exact ⟨rfl, M2⟩

set_option maxRecDepth 100000 in
set_option maxHeartbeats 1600000 in
theorem szSchedulerC (x0 : Int) (a1 : Option Addr) (n1 c1 : Nat) (a2 : Option Addr) (n2 c2 : Nat) (l : Int) (w : World) (hq0 : 0 ≤ l) (hq1 : l ≤ 1048576) (hn : (n1 : Int) + (n2 : Int) ≤ l) :
    Calls Try.prog 59 #[.agg #[.int .i64 x0, .slice a1 n1 c1, .slice a2 n2 c2], .int .i64 l] w fun e w' => ∃ l' : Int, l' = (l - n1) - n2 ∧ e = .returned (.int .i64 l') ∧ Mk0 w w' := by
  go_enter Try.func59, Try.ntmps59
  go_wp2_with fail
  refine (szReservationSC a1 n1 c1 _ _ (by omega) (by omega) (by omega)).mono ?_
  rintro e w' ⟨rfl, rfl⟩
  go_wp2_with fail
  refine (szUsageSC a2 n2 c2 _ _ (by omega) (by omega) (by omega)).mono ?_
  rintro e w' ⟨rfl, rfl⟩
  go_wp2_with fail
  go_ret
  exact ⟨_, rfl, rfl, Mk.alloc _ _⟩

set_option maxRecDepth 100000 in
set_option maxHeartbeats 1600000 in
theorem szSchedulerB (x0 : Int) (a1 : Option Addr) (n1 c1 : Nat) (a2 : Option Addr) (n2 c2 : Nat) (l : Int) (w : World) (hq0 : 0 ≤ l) (hq1 : l ≤ 1048576) (hn : l < (n1 : Int) + (n2 : Int)) (hm1 : n1 ≤ 9223372036854775807) (hm2 : n2 ≤ 9223372036854775807) :
    Calls Try.prog 59 #[.agg #[.int .i64 x0, .slice a1 n1 c1, .slice a2 n2 c2], .int .i64 l] w fun e w' => e = .returned (.int .i64 (-1)) ∧ Mk0 w w' := by
  by_cases hp0 : l < (n1 : Int)
  · go_enter Try.func59, Try.ntmps59
    go_wp2_with fail
    refine (szReservationSB a1 n1 c1 _ _ (by omega) (by omega) (by omega) hm1).mono ?_
    rintro e w' ⟨rfl, rfl⟩
    go_wp2_with fail
    go_ret
    exact ⟨rfl, Mk.alloc _ _⟩
  go_enter Try.func59, Try.ntmps59
  go_wp2_with fail
  refine (szReservationSC a1 n1 c1 _ _ (by omega) (by omega) (by omega)).mono ?_
  rintro e w' ⟨rfl, rfl⟩
  go_wp2_with fail
  refine (szUsageSB a2 n2 c2 _ _ (by omega) (by omega) (by omega) hm2).mono ?_
  rintro e w' ⟨rfl, rfl⟩
  go_wp2_with fail
  go_ret
  exact ⟨rfl, Mk.alloc _ _⟩
end Go.Proofs.Ytdbaecgbhadkbaa
