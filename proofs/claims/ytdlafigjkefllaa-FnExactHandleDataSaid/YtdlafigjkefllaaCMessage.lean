
/- Message by value: the laws' copy, equality and size. -/
import Derived.Test.YtdlafigjkefllaaByteR
import Derived.Test.YtdlafigjkefllaaByteZ
namespace Go.Proofs.Ytdlafigjkefllaa
open Go.ChangeShapes Go.WideShapes Go.ChangeAt Go.RowKit
set_option linter.unusedVariables false

set_option maxRecDepth 100000 in
set_option maxHeartbeats 4000000 in
theorem toMessageC (a0 : Option Addr) (n0 c0 : Nat) (z0 : List TByte) (B : Nat) (w : World) (h0 : HasByte w B a0 n0 z0) (hB : B ≤ w.heap.size) (hn0 : n0 ≤ 1048576) :
    Calls Try.prog 89 #[.agg #[.slice a0 n0 c0]] w fun e w' => ∃ b0, e = .returned (.agg #[.slice (some ⟨b0, 0, none⟩) n0 n0]) ∧ OwnByte w' w.heap.size w'.heap.size (some ⟨b0, 0, none⟩) n0 z0 ∧ w.heap.size ≤ w'.heap.size ∧ Mk0 w w' := by
  have M := ((Mk.alloc w (Obj.cells #[Value.slice a0 n0 c0] 129)).new (Obj.cells #[Value.slice none 0 0] 103)).new (Obj.cells #[Value.slice none 0 0] 103)
  have k0 : (((w.alloc (Obj.cells #[Value.slice a0 n0 c0] 129)).alloc (Obj.cells #[Value.slice none 0 0] 103)).alloc (Obj.cells #[Value.slice none 0 0] 103)).cell? ⟨w.heap.size, 0, none⟩ = some (.slice a0 n0 c0) := by simp [go_sem]
  have r0 : (((w.alloc (Obj.cells #[Value.slice a0 n0 c0] 129)).alloc (Obj.cells #[Value.slice none 0 0] 103)).alloc (Obj.cells #[Value.slice none 0 0] 103)).cell? ⟨w.heap.size + 1, 0, none⟩ = some (.slice none 0 0) := by simp [go_sem]
  have p0 : (((w.alloc (Obj.cells #[Value.slice a0 n0 c0] 129)).alloc (Obj.cells #[Value.slice none 0 0] 103)).alloc (Obj.cells #[Value.slice none 0 0] 103)).cell? ⟨w.heap.size + 1 + 1, 0, none⟩ = some (.slice none 0 0) := by simp [go_sem]
  have fr : ∀ q, (((w.alloc (Obj.cells #[Value.slice a0 n0 c0] 129)).alloc (Obj.cells #[Value.slice none 0 0] 103)).alloc (Obj.cells #[Value.slice none 0 0] 103)).frozen? ⟨w.heap.size + 1, q, none⟩ = false := fun q => by simp [go_sem]
  have fp : ∀ q, (((w.alloc (Obj.cells #[Value.slice a0 n0 c0] 129)).alloc (Obj.cells #[Value.slice none 0 0] 103)).alloc (Obj.cells #[Value.slice none 0 0] 103)).frozen? ⟨w.heap.size + 1 + 1, q, none⟩ = false := fun q => by simp [go_sem]
  have sz0 : (((w.alloc (Obj.cells #[Value.slice a0 n0 c0] 129)).alloc (Obj.cells #[Value.slice none 0 0] 103)).alloc (Obj.cells #[Value.slice none 0 0] 103)).heap.size = w.heap.size + 1 + 1 + 1 := by simp only [World.size_alloc]
  go_enter Try.func89, Try.ntmps89
  go_wp2_with fail
  generalize (((w.alloc (Obj.cells #[Value.slice a0 n0 c0] 129)).alloc (Obj.cells #[Value.slice none 0 0] 103)).alloc (Obj.cells #[Value.slice none 0 0] 103)) = u0 at *
  refine (toByteS a0 n0 c0 B z0 _ (h0.mk M hB (.inr (Nat.le_refl _))) (Nat.le_trans hB M.size) hn0).mono ?_
  rintro e w1 ⟨b0, rfl, o0, m1⟩
  have zt1 := m1.size
  clear k0
  replace r0 := m1.cellAt r0
  replace p0 := m1.cellAt p0
  replace fr := fun q => (m1.frozen (b := w.heap.size + 1) (o := q) (by omega) (.inr (Nat.zero_le _))).trans (fr q)
  replace fp := fun q => (m1.frozen (b := w.heap.size + 1 + 1) (o := q) (by omega) (.inr (Nat.zero_le _))).trans (fp q)
  replace M := M.trans m1
  clear m1
  go_wp2_with fail
  replace p0 := World.cell?_setCell_same _ _ (.slice (some ⟨b0, 0, none⟩) n0 n0) p0
  replace r0 := cell_set r0 ⟨w.heap.size + 1 + 1, 0, none⟩ (.slice (some ⟨b0, 0, none⟩) n0 n0) (.inl (show w.heap.size + 1 + 1 ≠ w.heap.size + 1 from by omega))
  replace fr := fun q => frozen_set (fr q) ⟨w.heap.size + 1 + 1, 0, none⟩ (.slice (some ⟨b0, 0, none⟩) n0 n0)
  replace fp := fun q => frozen_set (fp q) ⟨w.heap.size + 1 + 1, 0, none⟩ (.slice (some ⟨b0, 0, none⟩) n0 n0)
  replace o0 := o0.set ⟨w.heap.size + 1 + 1, 0, none⟩ (.slice (some ⟨b0, 0, none⟩) n0 n0) (.inl (show w.heap.size + 1 + 1 < _ from by omega))
  replace M := M.put ⟨w.heap.size + 1 + 1, 0, none⟩ (.slice (some ⟨b0, 0, none⟩) n0 n0) (show w.heap.size ≤ w.heap.size + 1 + 1 from by omega)
  replace r0 := World.cell?_setCell_same _ _ (.slice (some ⟨b0, 0, none⟩) n0 n0) r0
  replace o0 := o0.set ⟨w.heap.size + 1, 0, none⟩ (.slice (some ⟨b0, 0, none⟩) n0 n0) (.inl (show w.heap.size + 1 < _ from by omega))
  replace M := M.put ⟨w.heap.size + 1, 0, none⟩ (.slice (some ⟨b0, 0, none⟩) n0 n0) (show w.heap.size ≤ w.heap.size + 1 from by omega)
  clear p0 fr fp
  have zF : ((w1.setCell ⟨w.heap.size + 1 + 1, 0, none⟩ (.slice (some ⟨b0, 0, none⟩) n0 n0)).setCell ⟨w.heap.size + 1, 0, none⟩ (.slice (some ⟨b0, 0, none⟩) n0 n0)).heap.size = w1.heap.size := by simp [World.setCell]
  generalize ((w1.setCell ⟨w.heap.size + 1 + 1, 0, none⟩ (.slice (some ⟨b0, 0, none⟩) n0 n0)).setCell ⟨w.heap.size + 1, 0, none⟩ (.slice (some ⟨b0, 0, none⟩) n0 n0)) = WF at *
  refine bodyPost_ret (v := .agg #[.slice (some ⟨b0, 0, none⟩) n0 n0]) (by simp [results, Try.results89, go_sem, r0]) rfl ⟨b0, rfl, ?_, ?_, M⟩
  · exact o0.wide (by omega) (by omega)
  · omega

set_option maxRecDepth 100000 in
set_option maxHeartbeats 4000000 in
theorem eqMessageC (a0 a0' : Option Addr) (n0 c0 c0' : Nat) (z0 : List TByte) (B B' : Nat) (w : World) (h0 : HasByte w B a0 n0 z0) (h0' : HasByte w B' a0' n0 z0) (hB : B ≤ w.heap.size) (hB' : B' ≤ w.heap.size) (hn0 : n0 ≤ 1048576) :
    Calls Try.prog 94 #[.agg #[.slice a0 n0 c0], .agg #[.slice a0' n0 c0']] w fun e w' => e = .returned (.bool true) ∧ Mk0 w w' := by
  have M := (Mk.alloc w (Obj.cells #[Value.slice a0 n0 c0] 103)).new (Obj.cells #[Value.slice a0' n0 c0'] 103)
  have k0 : ((w.alloc (Obj.cells #[Value.slice a0 n0 c0] 103)).alloc (Obj.cells #[Value.slice a0' n0 c0'] 103)).cell? ⟨w.heap.size, 0, none⟩ = some (.slice a0 n0 c0) := by simp [go_sem]
  have s0 : ((w.alloc (Obj.cells #[Value.slice a0 n0 c0] 103)).alloc (Obj.cells #[Value.slice a0' n0 c0'] 103)).cell? ⟨w.heap.size + 1, 0, none⟩ = some (.slice a0' n0 c0') := by simp [go_sem]
  go_enter Try.func94, Try.ntmps94
  go_wp2_with fail
  generalize ((w.alloc (Obj.cells #[Value.slice a0 n0 c0] 103)).alloc (Obj.cells #[Value.slice a0' n0 c0'] 103)) = u0 at *
  refine (eqByteS a0 a0' n0 c0 c0' B B' z0 _ (h0.mk M hB (.inr (Nat.le_refl _))) (h0'.mk M hB' (.inr (Nat.le_refl _))) (Nat.le_trans hB M.size) (Nat.le_trans hB' M.size) (by omega)).mono ?_
  rintro e w1 ⟨rfl, m1⟩
  clear k0 s0
  replace M := M.trans m1
  go_wp2_with fail
  go_ret
  exact ⟨rfl, M⟩

set_option maxRecDepth 100000 in
set_option maxHeartbeats 4000000 in
theorem szMessageC (a0 : Option Addr) (n0 c0 : Nat) (l : Int) (w : World) (hq0 : 0 ≤ l) (hq1 : l ≤ 1048576) (hn : (n0 : Int) ≤ l) :
    Calls Try.prog 86 #[.agg #[.slice a0 n0 c0], .int .i64 l] w fun e w' => ∃ l' : Int, l' = l - (n0 : Int) ∧ e = .returned (.int .i64 l') ∧ Mk0 w w' := by
  have M := Mk.alloc w (Obj.cells #[Value.slice a0 n0 c0] 129)
  have k0 : (w.alloc (Obj.cells #[Value.slice a0 n0 c0] 129)).cell? ⟨w.heap.size, 0, none⟩ = some (.slice a0 n0 c0) := by simp [go_sem]
  go_enter Try.func86, Try.ntmps86
  go_wp2_with fail
  generalize w.alloc (Obj.cells #[Value.slice a0 n0 c0] 129) = u0 at *
  refine (szByteSC a0 n0 c0 _ _ (by omega) (by omega) (by omega)).mono ?_
  rintro e w1 ⟨rfl, rfl⟩
  go_wp2_with fail
  go_ret
  exact ⟨_, by omega, rfl, M⟩

set_option maxRecDepth 100000 in
set_option maxHeartbeats 4000000 in
theorem szMessageB (a0 : Option Addr) (n0 c0 : Nat) (l : Int) (w : World) (hq0 : 0 ≤ l) (hq1 : l ≤ 1048576) (hn : l < (n0 : Int)) (hm0 : n0 ≤ 9223372036854775807) :
    Calls Try.prog 86 #[.agg #[.slice a0 n0 c0], .int .i64 l] w fun e w' => e = .returned (.int .i64 (-1)) ∧ Mk0 w w' := by
  have M := Mk.alloc w (Obj.cells #[Value.slice a0 n0 c0] 129)
  have k0 : (w.alloc (Obj.cells #[Value.slice a0 n0 c0] 129)).cell? ⟨w.heap.size, 0, none⟩ = some (.slice a0 n0 c0) := by simp [go_sem]
  go_enter Try.func86, Try.ntmps86
  go_wp2_with fail
  generalize w.alloc (Obj.cells #[Value.slice a0 n0 c0] 129) = u0 at *
  refine (szByteSB a0 n0 c0 _ _ (by omega) (by omega) (by omega) hm0).mono ?_
  rintro e w1 ⟨rfl, rfl⟩
  go_wp2_with fail
  go_ret
  exact ⟨rfl, M⟩

end Go.Proofs.Ytdlafigjkefllaa
