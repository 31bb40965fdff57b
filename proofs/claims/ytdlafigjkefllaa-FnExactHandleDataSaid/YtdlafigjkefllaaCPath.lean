
/- Path by value: the laws' copy, equality and size. -/
import Derived.Test.YtdlafigjkefllaaNPathPart
namespace Go.Proofs.Ytdlafigjkefllaa
open Go.ChangeShapes Go.WideShapes Go.ChangeAt Go.RowKit
set_option linter.unusedVariables false

set_option maxRecDepth 100000 in
set_option maxHeartbeats 1600000 in
theorem toPathC (a0 : Option Addr) (n0 c0 : Nat) (z0 : List TPathPart) (B : Nat) (w : World) (h0 : HasPathPart w B a0 n0 z0) (hB : B ≤ w.heap.size) (hn0 : szPathPart z0 n0 ≤ 1048576) :
    Calls Try.prog 61 #[.agg #[.slice a0 n0 c0]] w fun e w' => ∃ b0, e = .returned (.agg #[.slice (some ⟨b0, 0, none⟩) n0 n0]) ∧
      OwnPathPart w' w.heap.size w'.heap.size (some ⟨b0, 0, none⟩) n0 z0 ∧ w.heap.size ≤ w'.heap.size ∧ Mk0 w w' := by
  go_enter Try.func61, Try.ntmps61
  go_wp2_with fail
  have M0 := ((Mk.alloc w (Obj.cells #[Value.slice a0 n0 c0] 51)).new (Obj.cells #[Value.slice none 0 0] 64)).new (Obj.cells #[Value.slice none 0 0] 64)
  refine (toPathPartS a0 n0 c0 B z0 _ (h0.mk M0 hB (.inr (Nat.le_refl _))) (by have := M0.size; omega) hn0).mono ?_
  rintro e w1 ⟨b0, rfl, o0, m1⟩
  have M1 := M0.trans m1
  obtain ⟨q1, r1⟩ := m1.kept
  have y0 : w.heap.size < w1.heap.size := by have := m1.size; simp at this; omega
  have y1 : w.heap.size + 1 < w1.heap.size := by have := m1.size; simp at this; omega
  have y2 : w.heap.size + 1 + 1 < w1.heap.size := by have := m1.size; simp at this; omega
  go_wp2_with fail
  have M2 := M1.put ⟨w.heap.size + 1 + 1, 0, none⟩ (.slice (some ⟨b0, 0, none⟩) n0 n0) (by simp; omega)
  have o0 := o0.set ⟨w.heap.size + 1 + 1, 0, none⟩ (.slice (some ⟨b0, 0, none⟩) n0 n0) (.inl (by first | (simp; done) | (simp; omega) | (rw [World.size_set]; simp; omega)))
  have t0 : w1.cell? ⟨w.heap.size + 1, 0, none⟩ = some (.slice none 0 0) := by rw [q1 _ _ (by simp)]; simp [go_sem]
  clear q1 r1
  have N0 := M2.put ⟨w.heap.size + 1, 0, none⟩ (.slice (some ⟨b0, 0, none⟩) n0 n0) (by simp)
  have o0 := o0.set ⟨w.heap.size + 1, 0, none⟩ (.slice (some ⟨b0, 0, none⟩) n0 n0) (.inl (by first | (simp; done) | (simp; omega) | (rw [World.size_set]; simp; omega)))
  have e0 : ((w1.setCell ⟨w.heap.size + 1 + 1, 0, none⟩ (.slice (some ⟨b0, 0, none⟩) n0 n0)).setCell ⟨w.heap.size + 1, 0, none⟩ (.slice (some ⟨b0, 0, none⟩) n0 n0)).cell? ⟨w.heap.size + 1, 0, none⟩ = some (.slice (some ⟨b0, 0, none⟩) n0 n0) := (World.cell?_setCell_same _ _ (.slice (some ⟨b0, 0, none⟩) n0 n0) (cell_set t0 ⟨w.heap.size + 1 + 1, 0, none⟩ (.slice (some ⟨b0, 0, none⟩) n0 n0) (.inl (by simp))))
  have zs0 := m1.size
  have zw : ((w1.setCell ⟨w.heap.size + 1 + 1, 0, none⟩ (.slice (some ⟨b0, 0, none⟩) n0 n0)).setCell ⟨w.heap.size + 1, 0, none⟩ (.slice (some ⟨b0, 0, none⟩) n0 n0)).heap.size = w1.heap.size := by simp [World.setCell]
  clear t0  M0 M1 M2
  clear m1
  generalize ((w1.setCell ⟨w.heap.size + 1 + 1, 0, none⟩ (.slice (some ⟨b0, 0, none⟩) n0 n0)).setCell ⟨w.heap.size + 1, 0, none⟩ (.slice (some ⟨b0, 0, none⟩) n0 n0)) = WF at *
  refine bodyPost_ret (v := .agg #[.slice (some ⟨b0, 0, none⟩) n0 n0]) (by simp [results, Try.results61, go_sem, e0]) rfl ⟨b0, rfl, ?_, ?_, N0⟩
  · exact o0.wide (by first | (simp; done) | (simp; omega) | (rw [World.size_set]; exact Nat.le_refl _)) (by first | exact Nat.le_refl _ | (rw [zw]; exact Nat.le_refl _) | omega)
  · simp at zs0 ⊢; omega

set_option maxRecDepth 100000 in
set_option maxHeartbeats 1600000 in
theorem eqPathC (a0 a0' : Option Addr) (n0 c0 c0' : Nat) (z0 : List TPathPart) (B B' : Nat) (w : World) (h0 : HasPathPart w B a0 n0 z0) (h0' : HasPathPart w B' a0' n0 z0) (hB : B ≤ w.heap.size) (hB' : B' ≤ w.heap.size) (hn0 : szPathPart z0 n0 ≤ 1048576) :
    Calls Try.prog 66 #[.agg #[.slice a0 n0 c0], .agg #[.slice a0' n0 c0']] w fun e w' => e = .returned (.bool true) ∧ Mk0 w w' := by
  go_enter Try.func66, Try.ntmps66
  go_wp2_with fail
  have M0 := (Mk.alloc w (Obj.cells #[Value.slice a0 n0 c0] 64)).new (Obj.cells #[Value.slice a0' n0 c0'] 64)
  refine (eqPathPartS a0 a0' n0 c0 c0' B B' z0 _ (h0.mk M0 hB (.inr (Nat.le_refl _))) (h0'.mk M0 hB' (.inr (Nat.le_refl _))) (by have := M0.size; omega) (by have := M0.size; omega) (by omega)).mono ?_
  rintro e w1 ⟨rfl, m1⟩
  have M1 := M0.trans m1
  obtain ⟨q1, r1⟩ := m1.kept
  have y0 : w.heap.size < w1.heap.size := by have := m1.size; simp at this; omega
  have y1 : w.heap.size + 1 < w1.heap.size := by have := m1.size; simp at this; omega
  go_wp2_with fail
  go_ret
  exact ⟨rfl, M1⟩

set_option maxRecDepth 100000 in
set_option maxHeartbeats 1600000 in
theorem szPathC (a0 : Option Addr) (n0 c0 : Nat) (z0 : List TPathPart) (B : Nat) (l : Int) (w : World) (h0 : HasPathPart w B a0 n0 z0) (hB : B ≤ w.heap.size) (hq0 : 0 ≤ l) (hq1 : l ≤ 1048576) (hn : (((szPathPart z0 n0 : Nat)) : Int) ≤ l) :
    Calls Try.prog 56 #[.agg #[.slice a0 n0 c0], .int .i64 l] w fun e w' => ∃ l' : Int, l' = l - (((szPathPart z0 n0 : Nat)) : Int) ∧ e = .returned (.int .i64 l') ∧ Mk0 w w' := by
  go_enter Try.func56, Try.ntmps56
  go_wp2_with fail
  have M0 := Mk.alloc w (Obj.cells #[Value.slice a0 n0 c0] 51)
  have k0 : (w.alloc (Obj.cells #[Value.slice a0 n0 c0] 51)).cell? ⟨w.heap.size, 0, none⟩ = some (.slice a0 n0 c0) := by simp [go_sem]
  refine (szPathPartSC a0 n0 c0 B z0 _ _ (h0.mk M0 hB (.inr (Nat.le_refl _))) (Nat.le_trans hB M0.size) (by omega) (by omega) (by omega)).mono ?_
  rintro e w1 ⟨l1, hl1, rfl, m1⟩
  have M1 := M0.trans m1
  go_wp2_with fail
  go_ret
  exact ⟨_, by omega, rfl, M1⟩

set_option maxRecDepth 100000 in
set_option maxHeartbeats 1600000 in
theorem szPathB (a0 : Option Addr) (n0 c0 : Nat) (z0 : List TPathPart) (B : Nat) (l : Int) (w : World) (h0 : HasPathPart w B a0 n0 z0) (hB : B ≤ w.heap.size) (hq0 : 0 ≤ l) (hq1 : l ≤ 1048576) (hn : l < (((szPathPart z0 n0 : Nat)) : Int)) (hm0 : n0 ≤ 9223372036854775807) :
    Calls Try.prog 56 #[.agg #[.slice a0 n0 c0], .int .i64 l] w fun e w' => e = .returned (.int .i64 (-1)) ∧ Mk0 w w' := by
  go_enter Try.func56, Try.ntmps56
  go_wp2_with fail
  have M0 := Mk.alloc w (Obj.cells #[Value.slice a0 n0 c0] 51)
  have k0 : (w.alloc (Obj.cells #[Value.slice a0 n0 c0] 51)).cell? ⟨w.heap.size, 0, none⟩ = some (.slice a0 n0 c0) := by simp [go_sem]
  refine (szPathPartSB a0 n0 c0 B z0 _ _ (h0.mk M0 hB (.inr (Nat.le_refl _))) (Nat.le_trans hB M0.size) (by omega) (by omega) (by omega) hm0).mono ?_
  rintro e w1 ⟨rfl, m1⟩
  have M1 := M0.trans m1
  go_wp2_with fail
  go_ret
  exact ⟨rfl, M1⟩
end Go.Proofs.Ytdlafigjkefllaa
