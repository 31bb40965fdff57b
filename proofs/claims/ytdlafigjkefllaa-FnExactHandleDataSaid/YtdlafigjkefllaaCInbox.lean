
/- Inbox by value: the laws' copy, equality and size. -/
import Derived.Test.YtdlafigjkefllaaNMessage
namespace Go.Proofs.Ytdlafigjkefllaa
open Go.ChangeShapes Go.WideShapes Go.ChangeAt Go.RowKit
set_option linter.unusedVariables false

set_option maxRecDepth 100000 in
set_option maxHeartbeats 4000000 in
theorem toInboxC (x0 : Int) (x1 : Int) (x2 : Int) (a3 : Option Addr) (n3 c3 : Nat) (z3 : List TMessage) (B : Nat) (w : World) (h3 : HasMessage w B a3 n3 z3) (hB : B ≤ w.heap.size) (hn3 : szMessage z3 n3 ≤ 1048576) :
    Calls Try.prog 28 #[.agg #[.int .i64 x0, .int .i64 x1, .int .i64 x2, .slice a3 n3 c3]] w fun e w' => ∃ b3, e = .returned (.agg #[.int .i64 x0, .int .i64 x1, .int .i64 x2, .slice (some ⟨b3, 0, none⟩) n3 n3]) ∧ OwnMessage w' w.heap.size w'.heap.size (some ⟨b3, 0, none⟩) n3 z3 ∧ w.heap.size ≤ w'.heap.size ∧ Mk0 w w' := by
  have M := ((Mk.alloc w (Obj.cells #[Value.int .i64 x0, Value.int .i64 x1, Value.int .i64 x2, Value.slice a3 n3 c3] 48)).new (Obj.cells #[Value.int .i64 0, Value.int .i64 0, Value.int .i64 0, Value.slice none 0 0] 59)).new (Obj.cells #[Value.int .i64 x0, Value.int .i64 x1, Value.int .i64 x2, Value.slice none 0 0] 59)
  have k3 : (((w.alloc (Obj.cells #[Value.int .i64 x0, Value.int .i64 x1, Value.int .i64 x2, Value.slice a3 n3 c3] 48)).alloc (Obj.cells #[Value.int .i64 0, Value.int .i64 0, Value.int .i64 0, Value.slice none 0 0] 59)).alloc (Obj.cells #[Value.int .i64 x0, Value.int .i64 x1, Value.int .i64 x2, Value.slice none 0 0] 59)).cell? ⟨w.heap.size, 3, none⟩ = some (.slice a3 n3 c3) := by simp [go_sem]
  have r0 : (((w.alloc (Obj.cells #[Value.int .i64 x0, Value.int .i64 x1, Value.int .i64 x2, Value.slice a3 n3 c3] 48)).alloc (Obj.cells #[Value.int .i64 0, Value.int .i64 0, Value.int .i64 0, Value.slice none 0 0] 59)).alloc (Obj.cells #[Value.int .i64 x0, Value.int .i64 x1, Value.int .i64 x2, Value.slice none 0 0] 59)).cell? ⟨w.heap.size + 1, 0, none⟩ = some (.int .i64 0) := by simp [go_sem]
  have r1 : (((w.alloc (Obj.cells #[Value.int .i64 x0, Value.int .i64 x1, Value.int .i64 x2, Value.slice a3 n3 c3] 48)).alloc (Obj.cells #[Value.int .i64 0, Value.int .i64 0, Value.int .i64 0, Value.slice none 0 0] 59)).alloc (Obj.cells #[Value.int .i64 x0, Value.int .i64 x1, Value.int .i64 x2, Value.slice none 0 0] 59)).cell? ⟨w.heap.size + 1, 1, none⟩ = some (.int .i64 0) := by simp [go_sem]
  have r2 : (((w.alloc (Obj.cells #[Value.int .i64 x0, Value.int .i64 x1, Value.int .i64 x2, Value.slice a3 n3 c3] 48)).alloc (Obj.cells #[Value.int .i64 0, Value.int .i64 0, Value.int .i64 0, Value.slice none 0 0] 59)).alloc (Obj.cells #[Value.int .i64 x0, Value.int .i64 x1, Value.int .i64 x2, Value.slice none 0 0] 59)).cell? ⟨w.heap.size + 1, 2, none⟩ = some (.int .i64 0) := by simp [go_sem]
  have r3 : (((w.alloc (Obj.cells #[Value.int .i64 x0, Value.int .i64 x1, Value.int .i64 x2, Value.slice a3 n3 c3] 48)).alloc (Obj.cells #[Value.int .i64 0, Value.int .i64 0, Value.int .i64 0, Value.slice none 0 0] 59)).alloc (Obj.cells #[Value.int .i64 x0, Value.int .i64 x1, Value.int .i64 x2, Value.slice none 0 0] 59)).cell? ⟨w.heap.size + 1, 3, none⟩ = some (.slice none 0 0) := by simp [go_sem]
  have p0 : (((w.alloc (Obj.cells #[Value.int .i64 x0, Value.int .i64 x1, Value.int .i64 x2, Value.slice a3 n3 c3] 48)).alloc (Obj.cells #[Value.int .i64 0, Value.int .i64 0, Value.int .i64 0, Value.slice none 0 0] 59)).alloc (Obj.cells #[Value.int .i64 x0, Value.int .i64 x1, Value.int .i64 x2, Value.slice none 0 0] 59)).cell? ⟨w.heap.size + 1 + 1, 0, none⟩ = some (.int .i64 x0) := by simp [go_sem]
  have p1 : (((w.alloc (Obj.cells #[Value.int .i64 x0, Value.int .i64 x1, Value.int .i64 x2, Value.slice a3 n3 c3] 48)).alloc (Obj.cells #[Value.int .i64 0, Value.int .i64 0, Value.int .i64 0, Value.slice none 0 0] 59)).alloc (Obj.cells #[Value.int .i64 x0, Value.int .i64 x1, Value.int .i64 x2, Value.slice none 0 0] 59)).cell? ⟨w.heap.size + 1 + 1, 1, none⟩ = some (.int .i64 x1) := by simp [go_sem]
  have p2 : (((w.alloc (Obj.cells #[Value.int .i64 x0, Value.int .i64 x1, Value.int .i64 x2, Value.slice a3 n3 c3] 48)).alloc (Obj.cells #[Value.int .i64 0, Value.int .i64 0, Value.int .i64 0, Value.slice none 0 0] 59)).alloc (Obj.cells #[Value.int .i64 x0, Value.int .i64 x1, Value.int .i64 x2, Value.slice none 0 0] 59)).cell? ⟨w.heap.size + 1 + 1, 2, none⟩ = some (.int .i64 x2) := by simp [go_sem]
  have p3 : (((w.alloc (Obj.cells #[Value.int .i64 x0, Value.int .i64 x1, Value.int .i64 x2, Value.slice a3 n3 c3] 48)).alloc (Obj.cells #[Value.int .i64 0, Value.int .i64 0, Value.int .i64 0, Value.slice none 0 0] 59)).alloc (Obj.cells #[Value.int .i64 x0, Value.int .i64 x1, Value.int .i64 x2, Value.slice none 0 0] 59)).cell? ⟨w.heap.size + 1 + 1, 3, none⟩ = some (.slice none 0 0) := by simp [go_sem]
  have fr : ∀ q, (((w.alloc (Obj.cells #[Value.int .i64 x0, Value.int .i64 x1, Value.int .i64 x2, Value.slice a3 n3 c3] 48)).alloc (Obj.cells #[Value.int .i64 0, Value.int .i64 0, Value.int .i64 0, Value.slice none 0 0] 59)).alloc (Obj.cells #[Value.int .i64 x0, Value.int .i64 x1, Value.int .i64 x2, Value.slice none 0 0] 59)).frozen? ⟨w.heap.size + 1, q, none⟩ = false := fun q => by simp [go_sem]
  have fp : ∀ q, (((w.alloc (Obj.cells #[Value.int .i64 x0, Value.int .i64 x1, Value.int .i64 x2, Value.slice a3 n3 c3] 48)).alloc (Obj.cells #[Value.int .i64 0, Value.int .i64 0, Value.int .i64 0, Value.slice none 0 0] 59)).alloc (Obj.cells #[Value.int .i64 x0, Value.int .i64 x1, Value.int .i64 x2, Value.slice none 0 0] 59)).frozen? ⟨w.heap.size + 1 + 1, q, none⟩ = false := fun q => by simp [go_sem]
  have sz0 : (((w.alloc (Obj.cells #[Value.int .i64 x0, Value.int .i64 x1, Value.int .i64 x2, Value.slice a3 n3 c3] 48)).alloc (Obj.cells #[Value.int .i64 0, Value.int .i64 0, Value.int .i64 0, Value.slice none 0 0] 59)).alloc (Obj.cells #[Value.int .i64 x0, Value.int .i64 x1, Value.int .i64 x2, Value.slice none 0 0] 59)).heap.size = w.heap.size + 1 + 1 + 1 := by simp only [World.size_alloc]
  go_enter Try.func28, Try.ntmps28
  go_wp2_with fail
  generalize (((w.alloc (Obj.cells #[Value.int .i64 x0, Value.int .i64 x1, Value.int .i64 x2, Value.slice a3 n3 c3] 48)).alloc (Obj.cells #[Value.int .i64 0, Value.int .i64 0, Value.int .i64 0, Value.slice none 0 0] 59)).alloc (Obj.cells #[Value.int .i64 x0, Value.int .i64 x1, Value.int .i64 x2, Value.slice none 0 0] 59)) = u0 at *
  refine (toMessageS a3 n3 c3 B z3 _ (h3.mk M hB (.inr (Nat.le_refl _))) (Nat.le_trans hB M.size) hn3).mono ?_
  rintro e w1 ⟨b3, rfl, o3, m1⟩
  have zt1 := m1.size
  clear k3
  replace r0 := m1.cellAt r0
  replace r1 := m1.cellAt r1
  replace r2 := m1.cellAt r2
  replace r3 := m1.cellAt r3
  replace p0 := m1.cellAt p0
  replace p1 := m1.cellAt p1
  replace p2 := m1.cellAt p2
  replace p3 := m1.cellAt p3
  replace fr := fun q => (m1.frozen (b := w.heap.size + 1) (o := q) (by omega) (.inr (Nat.zero_le _))).trans (fr q)
  replace fp := fun q => (m1.frozen (b := w.heap.size + 1 + 1) (o := q) (by omega) (.inr (Nat.zero_le _))).trans (fp q)
  replace M := M.trans m1
  clear m1
  go_wp2_with fail
  replace p0 := cell_set p0 ⟨w.heap.size + 1 + 1, 3, none⟩ (.slice (some ⟨b3, 0, none⟩) n3 n3) (.inr (by simp))
  replace p1 := cell_set p1 ⟨w.heap.size + 1 + 1, 3, none⟩ (.slice (some ⟨b3, 0, none⟩) n3 n3) (.inr (by simp))
  replace p2 := cell_set p2 ⟨w.heap.size + 1 + 1, 3, none⟩ (.slice (some ⟨b3, 0, none⟩) n3 n3) (.inr (by simp))
  replace p3 := World.cell?_setCell_same _ _ (.slice (some ⟨b3, 0, none⟩) n3 n3) p3
  replace r0 := cell_set r0 ⟨w.heap.size + 1 + 1, 3, none⟩ (.slice (some ⟨b3, 0, none⟩) n3 n3) (.inl (show w.heap.size + 1 + 1 ≠ w.heap.size + 1 from by omega))
  replace r1 := cell_set r1 ⟨w.heap.size + 1 + 1, 3, none⟩ (.slice (some ⟨b3, 0, none⟩) n3 n3) (.inl (show w.heap.size + 1 + 1 ≠ w.heap.size + 1 from by omega))
  replace r2 := cell_set r2 ⟨w.heap.size + 1 + 1, 3, none⟩ (.slice (some ⟨b3, 0, none⟩) n3 n3) (.inl (show w.heap.size + 1 + 1 ≠ w.heap.size + 1 from by omega))
  replace r3 := cell_set r3 ⟨w.heap.size + 1 + 1, 3, none⟩ (.slice (some ⟨b3, 0, none⟩) n3 n3) (.inl (show w.heap.size + 1 + 1 ≠ w.heap.size + 1 from by omega))
  replace fr := fun q => frozen_set (fr q) ⟨w.heap.size + 1 + 1, 3, none⟩ (.slice (some ⟨b3, 0, none⟩) n3 n3)
  replace fp := fun q => frozen_set (fp q) ⟨w.heap.size + 1 + 1, 3, none⟩ (.slice (some ⟨b3, 0, none⟩) n3 n3)
  replace o3 := o3.set ⟨w.heap.size + 1 + 1, 3, none⟩ (.slice (some ⟨b3, 0, none⟩) n3 n3) (.inl (show w.heap.size + 1 + 1 < _ from by omega))
  replace M := M.put ⟨w.heap.size + 1 + 1, 3, none⟩ (.slice (some ⟨b3, 0, none⟩) n3 n3) (show w.heap.size ≤ w.heap.size + 1 + 1 from by omega)
  replace r0 := World.cell?_setCell_same _ _ (.int .i64 x0) r0
  replace r1 := cell_set r1 ⟨w.heap.size + 1, 0, none⟩ (.int .i64 x0) (.inr (by simp))
  replace r2 := cell_set r2 ⟨w.heap.size + 1, 0, none⟩ (.int .i64 x0) (.inr (by simp))
  replace r3 := cell_set r3 ⟨w.heap.size + 1, 0, none⟩ (.int .i64 x0) (.inr (by simp))
  replace o3 := o3.set ⟨w.heap.size + 1, 0, none⟩ (.int .i64 x0) (.inl (show w.heap.size + 1 < _ from by omega))
  replace M := M.put ⟨w.heap.size + 1, 0, none⟩ (.int .i64 x0) (show w.heap.size ≤ w.heap.size + 1 from by omega)
  replace r0 := cell_set r0 ⟨w.heap.size + 1, 1, none⟩ (.int .i64 x1) (.inr (by simp))
  replace r1 := World.cell?_setCell_same _ _ (.int .i64 x1) r1
  replace r2 := cell_set r2 ⟨w.heap.size + 1, 1, none⟩ (.int .i64 x1) (.inr (by simp))
  replace r3 := cell_set r3 ⟨w.heap.size + 1, 1, none⟩ (.int .i64 x1) (.inr (by simp))
  replace o3 := o3.set ⟨w.heap.size + 1, 1, none⟩ (.int .i64 x1) (.inl (show w.heap.size + 1 < _ from by omega))
  replace M := M.put ⟨w.heap.size + 1, 1, none⟩ (.int .i64 x1) (show w.heap.size ≤ w.heap.size + 1 from by omega)
  replace r0 := cell_set r0 ⟨w.heap.size + 1, 2, none⟩ (.int .i64 x2) (.inr (by simp))
  replace r1 := cell_set r1 ⟨w.heap.size + 1, 2, none⟩ (.int .i64 x2) (.inr (by simp))
  replace r2 := World.cell?_setCell_same _ _ (.int .i64 x2) r2
  replace r3 := cell_set r3 ⟨w.heap.size + 1, 2, none⟩ (.int .i64 x2) (.inr (by simp))
  replace o3 := o3.set ⟨w.heap.size + 1, 2, none⟩ (.int .i64 x2) (.inl (show w.heap.size + 1 < _ from by omega))
  replace M := M.put ⟨w.heap.size + 1, 2, none⟩ (.int .i64 x2) (show w.heap.size ≤ w.heap.size + 1 from by omega)
  replace r0 := cell_set r0 ⟨w.heap.size + 1, 3, none⟩ (.slice (some ⟨b3, 0, none⟩) n3 n3) (.inr (by simp))
  replace r1 := cell_set r1 ⟨w.heap.size + 1, 3, none⟩ (.slice (some ⟨b3, 0, none⟩) n3 n3) (.inr (by simp))
  replace r2 := cell_set r2 ⟨w.heap.size + 1, 3, none⟩ (.slice (some ⟨b3, 0, none⟩) n3 n3) (.inr (by simp))
  replace r3 := World.cell?_setCell_same _ _ (.slice (some ⟨b3, 0, none⟩) n3 n3) r3
  replace o3 := o3.set ⟨w.heap.size + 1, 3, none⟩ (.slice (some ⟨b3, 0, none⟩) n3 n3) (.inl (show w.heap.size + 1 < _ from by omega))
  replace M := M.put ⟨w.heap.size + 1, 3, none⟩ (.slice (some ⟨b3, 0, none⟩) n3 n3) (show w.heap.size ≤ w.heap.size + 1 from by omega)
  clear p0 p1 p2 p3 fr fp
  have zF : (((((w1.setCell ⟨w.heap.size + 1 + 1, 3, none⟩ (.slice (some ⟨b3, 0, none⟩) n3 n3)).setCell ⟨w.heap.size + 1, 0, none⟩ (.int .i64 x0)).setCell ⟨w.heap.size + 1, 1, none⟩ (.int .i64 x1)).setCell ⟨w.heap.size + 1, 2, none⟩ (.int .i64 x2)).setCell ⟨w.heap.size + 1, 3, none⟩ (.slice (some ⟨b3, 0, none⟩) n3 n3)).heap.size = w1.heap.size := by simp [World.setCell]
  generalize (((((w1.setCell ⟨w.heap.size + 1 + 1, 3, none⟩ (.slice (some ⟨b3, 0, none⟩) n3 n3)).setCell ⟨w.heap.size + 1, 0, none⟩ (.int .i64 x0)).setCell ⟨w.heap.size + 1, 1, none⟩ (.int .i64 x1)).setCell ⟨w.heap.size + 1, 2, none⟩ (.int .i64 x2)).setCell ⟨w.heap.size + 1, 3, none⟩ (.slice (some ⟨b3, 0, none⟩) n3 n3)) = WF at *
  refine bodyPost_ret (v := .agg #[.int .i64 x0, .int .i64 x1, .int .i64 x2, .slice (some ⟨b3, 0, none⟩) n3 n3]) (by simp [results, Try.results28, go_sem, r0, r1, r2, r3]) rfl ⟨b3, rfl, ?_, ?_, M⟩
  · exact o3.wide (by omega) (by omega)
  · omega

set_option maxRecDepth 100000 in
set_option maxHeartbeats 4000000 in
theorem eqInboxC (x0 : Int) (x1 : Int) (x2 : Int) (a3 a3' : Option Addr) (n3 c3 c3' : Nat) (z3 : List TMessage) (B B' : Nat) (w : World) (h3 : HasMessage w B a3 n3 z3) (h3' : HasMessage w B' a3' n3 z3) (hB : B ≤ w.heap.size) (hB' : B' ≤ w.heap.size) (hn3 : szMessage z3 n3 ≤ 1048576) :
    Calls Try.prog 31 #[.agg #[.int .i64 x0, .int .i64 x1, .int .i64 x2, .slice a3 n3 c3], .agg #[.int .i64 x0, .int .i64 x1, .int .i64 x2, .slice a3' n3 c3']] w fun e w' => e = .returned (.bool true) ∧ Mk0 w w' := by
  have M := (Mk.alloc w (Obj.cells #[Value.int .i64 x0, Value.int .i64 x1, Value.int .i64 x2, Value.slice a3 n3 c3] 59)).new (Obj.cells #[Value.int .i64 x0, Value.int .i64 x1, Value.int .i64 x2, Value.slice a3' n3 c3'] 59)
  have k3 : ((w.alloc (Obj.cells #[Value.int .i64 x0, Value.int .i64 x1, Value.int .i64 x2, Value.slice a3 n3 c3] 59)).alloc (Obj.cells #[Value.int .i64 x0, Value.int .i64 x1, Value.int .i64 x2, Value.slice a3' n3 c3'] 59)).cell? ⟨w.heap.size, 3, none⟩ = some (.slice a3 n3 c3) := by simp [go_sem]
  have s3 : ((w.alloc (Obj.cells #[Value.int .i64 x0, Value.int .i64 x1, Value.int .i64 x2, Value.slice a3 n3 c3] 59)).alloc (Obj.cells #[Value.int .i64 x0, Value.int .i64 x1, Value.int .i64 x2, Value.slice a3' n3 c3'] 59)).cell? ⟨w.heap.size + 1, 3, none⟩ = some (.slice a3' n3 c3') := by simp [go_sem]
  go_enter Try.func31, Try.ntmps31
  go_wp2_with fail
  generalize ((w.alloc (Obj.cells #[Value.int .i64 x0, Value.int .i64 x1, Value.int .i64 x2, Value.slice a3 n3 c3] 59)).alloc (Obj.cells #[Value.int .i64 x0, Value.int .i64 x1, Value.int .i64 x2, Value.slice a3' n3 c3'] 59)) = u0 at *
  refine (eqMessageS a3 a3' n3 c3 c3' B B' z3 _ (h3.mk M hB (.inr (Nat.le_refl _))) (h3'.mk M hB' (.inr (Nat.le_refl _))) (Nat.le_trans hB M.size) (Nat.le_trans hB' M.size) (by omega)).mono ?_
  rintro e w1 ⟨rfl, m1⟩
  clear k3 s3
  replace M := M.trans m1
  go_wp2_with fail
  go_ret
  exact ⟨rfl, M⟩

set_option maxRecDepth 100000 in
set_option maxHeartbeats 4000000 in
theorem szInboxC (x0 : Int) (x1 : Int) (x2 : Int) (a3 : Option Addr) (n3 c3 : Nat) (z3 : List TMessage) (B : Nat) (l : Int) (w : World) (h3 : HasMessage w B a3 n3 z3) (hB : B ≤ w.heap.size) (hq0 : 0 ≤ l) (hq1 : l ≤ 1048576) (hn : (((szMessage z3 n3 : Nat)) : Int) ≤ l) :
    Calls Try.prog 25 #[.agg #[.int .i64 x0, .int .i64 x1, .int .i64 x2, .slice a3 n3 c3], .int .i64 l] w fun e w' => ∃ l' : Int, l' = l - (((szMessage z3 n3 : Nat)) : Int) ∧ e = .returned (.int .i64 l') ∧ Mk0 w w' := by
  have M := Mk.alloc w (Obj.cells #[Value.int .i64 x0, Value.int .i64 x1, Value.int .i64 x2, Value.slice a3 n3 c3] 48)
  have k3 : (w.alloc (Obj.cells #[Value.int .i64 x0, Value.int .i64 x1, Value.int .i64 x2, Value.slice a3 n3 c3] 48)).cell? ⟨w.heap.size, 3, none⟩ = some (.slice a3 n3 c3) := by simp [go_sem]
  go_enter Try.func25, Try.ntmps25
  go_wp2_with fail
  generalize w.alloc (Obj.cells #[Value.int .i64 x0, Value.int .i64 x1, Value.int .i64 x2, Value.slice a3 n3 c3] 48) = u0 at *
  refine (szMessageSC a3 n3 c3 B z3 _ _ (h3.mk M hB (.inr (Nat.le_refl _))) (Nat.le_trans hB M.size) (by omega) (by omega) (by omega)).mono ?_
  rintro e w1 ⟨l1, hl1, rfl, m1⟩
  replace M := M.trans m1
  go_wp2_with fail
  go_ret
  exact ⟨_, by omega, rfl, M⟩

set_option maxRecDepth 100000 in
set_option maxHeartbeats 4000000 in
theorem szInboxB (x0 : Int) (x1 : Int) (x2 : Int) (a3 : Option Addr) (n3 c3 : Nat) (z3 : List TMessage) (B : Nat) (l : Int) (w : World) (h3 : HasMessage w B a3 n3 z3) (hB : B ≤ w.heap.size) (hq0 : 0 ≤ l) (hq1 : l ≤ 1048576) (hn : l < (((szMessage z3 n3 : Nat)) : Int)) (hm3 : n3 ≤ 9223372036854775807) :
    Calls Try.prog 25 #[.agg #[.int .i64 x0, .int .i64 x1, .int .i64 x2, .slice a3 n3 c3], .int .i64 l] w fun e w' => e = .returned (.int .i64 (-1)) ∧ Mk0 w w' := by
  have M := Mk.alloc w (Obj.cells #[Value.int .i64 x0, Value.int .i64 x1, Value.int .i64 x2, Value.slice a3 n3 c3] 48)
  have k3 : (w.alloc (Obj.cells #[Value.int .i64 x0, Value.int .i64 x1, Value.int .i64 x2, Value.slice a3 n3 c3] 48)).cell? ⟨w.heap.size, 3, none⟩ = some (.slice a3 n3 c3) := by simp [go_sem]
  go_enter Try.func25, Try.ntmps25
  go_wp2_with fail
  generalize w.alloc (Obj.cells #[Value.int .i64 x0, Value.int .i64 x1, Value.int .i64 x2, Value.slice a3 n3 c3] 48) = u0 at *
  refine (szMessageSB a3 n3 c3 B z3 _ _ (h3.mk M hB (.inr (Nat.le_refl _))) (Nat.le_trans hB M.size) (by omega) (by omega) (by omega) hm3).mono ?_
  rintro e w1 ⟨rfl, m1⟩
  replace M := M.trans m1
  go_wp2_with fail
  go_ret
  exact ⟨rfl, M⟩

end Go.Proofs.Ytdlafigjkefllaa
