
/- PathPart of the call's own; marks by content. -/
import Derived.Test.YtbkbkpnpllemfaaCPathPart
import Derived.Test.YtbkbkpnpllemfaaOwnP
namespace Go.Proofs.Ytbkbkpnpllemfaa
open Go.ChangeShapes Go.WideShapes Go.ChangeAt Go.RowKit
set_option linter.unusedVariables false
def OutCPathPart (x0 x1 x2 : Int) (R : List THop) (w : World) (e : Ending) (w' : World) : Prop :=
  ∃ A N C, e = .returned (.agg #[.int .i64 x0, .int .i64 x1, .int .i64 x2, .slice A N C]) ∧ ((A = none → C = 0) ∧ (N ≤ C ∧ C ≤ 9223372036854775807)) ∧ OwnHop w' w.heap.size w'.heap.size A N R ∧ Mk0 w w'
set_option maxRecDepth 100000 in
set_option maxHeartbeats 4000000 in
theorem markPathPartK (x0 x1 x2 : Int) (a : Option Addr) (n c lo hi : Nat) (k0 : Int) (zs : List THop) (w : World) (h : OwnHop w lo hi a n zs) (hB : hi ≤ w.heap.size) (hn : n ≤ 2097152) (h0 : 0 ≤ k0) (h1 : k0 ≤ 1073741824) :
    Calls Try.prog 19 #[.agg #[.int .i64 x0, .int .i64 x1, .int .i64 x2, .slice a n c], .int .i64 k0] w fun e w' => e = .returned (.int .i64 (k0 + 5 * n)) ∧ OwnHop w' lo hi a n (mklHop k0 n) ∧ Mk lo hi w w' := by
  have kk0 : (w.alloc (Obj.cells #[Value.int .i64 x0, Value.int .i64 x1, Value.int .i64 x2, Value.slice a n c] 35)).cell? ⟨w.heap.size, 0, none⟩ = some (.int .i64 x0) := by simp [go_sem]
  have kk1 : (w.alloc (Obj.cells #[Value.int .i64 x0, Value.int .i64 x1, Value.int .i64 x2, Value.slice a n c] 35)).cell? ⟨w.heap.size, 1, none⟩ = some (.int .i64 x1) := by simp [go_sem]
  have kk2 : (w.alloc (Obj.cells #[Value.int .i64 x0, Value.int .i64 x1, Value.int .i64 x2, Value.slice a n c] 35)).cell? ⟨w.heap.size, 2, none⟩ = some (.int .i64 x2) := by simp [go_sem]
  have kk3 : (w.alloc (Obj.cells #[Value.int .i64 x0, Value.int .i64 x1, Value.int .i64 x2, Value.slice a n c] 35)).cell? ⟨w.heap.size, 3, none⟩ = some (.slice a n c) := by simp [go_sem]
  have M0 : Mk0 w (w.alloc (Obj.cells #[Value.int .i64 x0, Value.int .i64 x1, Value.int .i64 x2, Value.slice a n c] 35)) := Mk.alloc w _
  have y0 := M0.size
  have h2 := h.mk M0 hB (.inr (.inr (Nat.le_refl _)))
  go_enter Try.func19, Try.ntmps19
  go_wp2_with fail
  refine (markHopM _ _ _ lo hi _ zs _ h2 hn h0 (by omega)).mono ?_
  rintro e w1 ⟨rfl, o1, m1⟩
  go_wp2_with fail
  go_ret
  exact ⟨rfl, o1, (M0.wide (.inl (Nat.le_refl _))).trans m1⟩

set_option maxRecDepth 100000 in
set_option maxHeartbeats 4000000 in
theorem heldPathPartK (x0 x1 x2 : Int) (a : Option Addr) (n c B : Nat) (k0 : Int) (w : World) (h : HasHop w B a n (mklHop k0 n)) (hB : B ≤ w.heap.size) (hn : n ≤ 2097152) (h0 : 0 ≤ k0) (h1 : k0 ≤ 1073741824) :
    Calls Try.prog 20 #[.agg #[.int .i64 x0, .int .i64 x1, .int .i64 x2, .slice a n c], .int .i64 k0] w fun e w' => e = .returned (.int .i64 (k0 + 5 * n)) ∧ Mk0 w w' := by
  have kk0 : (w.alloc (Obj.cells #[Value.int .i64 x0, Value.int .i64 x1, Value.int .i64 x2, Value.slice a n c] 35)).cell? ⟨w.heap.size, 0, none⟩ = some (.int .i64 x0) := by simp [go_sem]
  have kk1 : (w.alloc (Obj.cells #[Value.int .i64 x0, Value.int .i64 x1, Value.int .i64 x2, Value.slice a n c] 35)).cell? ⟨w.heap.size, 1, none⟩ = some (.int .i64 x1) := by simp [go_sem]
  have kk2 : (w.alloc (Obj.cells #[Value.int .i64 x0, Value.int .i64 x1, Value.int .i64 x2, Value.slice a n c] 35)).cell? ⟨w.heap.size, 2, none⟩ = some (.int .i64 x2) := by simp [go_sem]
  have kk3 : (w.alloc (Obj.cells #[Value.int .i64 x0, Value.int .i64 x1, Value.int .i64 x2, Value.slice a n c] 35)).cell? ⟨w.heap.size, 3, none⟩ = some (.slice a n c) := by simp [go_sem]
  have M0 : Mk0 w (w.alloc (Obj.cells #[Value.int .i64 x0, Value.int .i64 x1, Value.int .i64 x2, Value.slice a n c] 35)) := Mk.alloc w _
  have y0 := M0.size
  have h2 := h.mk M0 hB (.inr (Nat.le_refl _))
  go_enter Try.func20, Try.ntmps20
  go_wp2_with fail
  refine (heldHopM _ _ _ _ _ _ h2 hn h0 (by omega)).mono ?_
  rintro e w' ⟨rfl, rfl⟩
  go_wp2_with fail
  go_ret
  exact ⟨rfl, M0⟩

end Go.Proofs.Ytbkbkpnpllemfaa
