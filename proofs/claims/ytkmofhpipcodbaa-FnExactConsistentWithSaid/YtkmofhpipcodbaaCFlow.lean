
/- Flow by value: the laws' copy, equality and size. -/
import Derived.Test.YtkmofhpipcodbaaNMessage
import Derived.Test.YtkmofhpipcodbaaNPath
import Derived.Test.YtkmofhpipcodbaaZRevocation
import Derived.Test.YtkmofhpipcodbaaSRevocation
namespace Go.Proofs.Ytkmofhpipcodbaa
open Go.ChangeShapes Go.WideShapes Go.ChangeAt Go.RowKit
set_option linter.unusedVariables false

set_option maxRecDepth 100000 in
set_option maxHeartbeats 4000000 in
theorem toFlowC (x0 : Int) (x1 : Int) (x2 : Int) (x3 : Int) (x6 : Int) (x7 : Int) (a4 : Option Addr) (n4 c4 : Nat) (z4 : List TMessage) (a5 : Option Addr) (n5 c5 : Nat) (z5 : List TPath) (a8 : Option Addr) (n8 c8 : Nat) (z8 : List TRevocation) (B : Nat) (w : World) (h4 : HasMessage w B a4 n4 z4) (h5 : HasPath w B a5 n5 z5) (h8 : HasRevocation w B a8 n8 z8) (hB : B ≤ w.heap.size) (hn4 : szMessage z4 n4 ≤ 1048576) (hn5 : szPath z5 n5 ≤ 1048576) (hn8 : n8 ≤ 1048576) :
    Calls Try.prog 36 #[.agg #[.int .i64 x0, .int .i64 x1, .int .i64 x2, .int .i64 x3, .slice a4 n4 c4, .slice a5 n5 c5, .int .i64 x6, .int .i64 x7, .slice a8 n8 c8]] w fun e w' => ∃ b4 b5 b8 m4 m5, e = .returned (.agg #[.int .i64 x0, .int .i64 x1, .int .i64 x2, .int .i64 x3, .slice (some ⟨b4, 0, none⟩) n4 n4, .slice (some ⟨b5, 0, none⟩) n5 n5, .int .i64 x6, .int .i64 x7, .slice (some ⟨b8, 0, none⟩) n8 n8]) ∧ OwnMessage w' w.heap.size m4 (some ⟨b4, 0, none⟩) n4 z4 ∧ OwnPath w' m4 m5 (some ⟨b5, 0, none⟩) n5 z5 ∧ OwnRevocation w' m5 w'.heap.size (some ⟨b8, 0, none⟩) n8 z8 ∧ w.heap.size ≤ m4 ∧ m4 ≤ m5 ∧ m5 ≤ w'.heap.size ∧ Mk0 w w' := by
  have M := ((Mk.alloc w (Obj.cells #[Value.int .i64 x0, Value.int .i64 x1, Value.int .i64 x2, Value.int .i64 x3, Value.slice a4 n4 c4, Value.slice a5 n5 c5, Value.int .i64 x6, Value.int .i64 x7, Value.slice a8 n8 c8] 77)).new (Obj.cells #[Value.int .i64 0, Value.int .i64 0, Value.int .i64 0, Value.int .i64 0, Value.slice none 0 0, Value.slice none 0 0, Value.int .i64 0, Value.int .i64 0, Value.slice none 0 0] 83)).new (Obj.cells #[Value.int .i64 x0, Value.int .i64 x1, Value.int .i64 x2, Value.int .i64 x3, Value.slice none 0 0, Value.slice none 0 0, Value.int .i64 0, Value.int .i64 0, Value.slice none 0 0] 83)
  have k4 : (((w.alloc (Obj.cells #[Value.int .i64 x0, Value.int .i64 x1, Value.int .i64 x2, Value.int .i64 x3, Value.slice a4 n4 c4, Value.slice a5 n5 c5, Value.int .i64 x6, Value.int .i64 x7, Value.slice a8 n8 c8] 77)).alloc (Obj.cells #[Value.int .i64 0, Value.int .i64 0, Value.int .i64 0, Value.int .i64 0, Value.slice none 0 0, Value.slice none 0 0, Value.int .i64 0, Value.int .i64 0, Value.slice none 0 0] 83)).alloc (Obj.cells #[Value.int .i64 x0, Value.int .i64 x1, Value.int .i64 x2, Value.int .i64 x3, Value.slice none 0 0, Value.slice none 0 0, Value.int .i64 0, Value.int .i64 0, Value.slice none 0 0] 83)).cell? ⟨w.heap.size, 4, none⟩ = some (.slice a4 n4 c4) := by simp [go_sem]
  have k5 : (((w.alloc (Obj.cells #[Value.int .i64 x0, Value.int .i64 x1, Value.int .i64 x2, Value.int .i64 x3, Value.slice a4 n4 c4, Value.slice a5 n5 c5, Value.int .i64 x6, Value.int .i64 x7, Value.slice a8 n8 c8] 77)).alloc (Obj.cells #[Value.int .i64 0, Value.int .i64 0, Value.int .i64 0, Value.int .i64 0, Value.slice none 0 0, Value.slice none 0 0, Value.int .i64 0, Value.int .i64 0, Value.slice none 0 0] 83)).alloc (Obj.cells #[Value.int .i64 x0, Value.int .i64 x1, Value.int .i64 x2, Value.int .i64 x3, Value.slice none 0 0, Value.slice none 0 0, Value.int .i64 0, Value.int .i64 0, Value.slice none 0 0] 83)).cell? ⟨w.heap.size, 5, none⟩ = some (.slice a5 n5 c5) := by simp [go_sem]
  have k6 : (((w.alloc (Obj.cells #[Value.int .i64 x0, Value.int .i64 x1, Value.int .i64 x2, Value.int .i64 x3, Value.slice a4 n4 c4, Value.slice a5 n5 c5, Value.int .i64 x6, Value.int .i64 x7, Value.slice a8 n8 c8] 77)).alloc (Obj.cells #[Value.int .i64 0, Value.int .i64 0, Value.int .i64 0, Value.int .i64 0, Value.slice none 0 0, Value.slice none 0 0, Value.int .i64 0, Value.int .i64 0, Value.slice none 0 0] 83)).alloc (Obj.cells #[Value.int .i64 x0, Value.int .i64 x1, Value.int .i64 x2, Value.int .i64 x3, Value.slice none 0 0, Value.slice none 0 0, Value.int .i64 0, Value.int .i64 0, Value.slice none 0 0] 83)).cell? ⟨w.heap.size, 6, none⟩ = some (.int .i64 x6) := by simp [go_sem]
  have k7 : (((w.alloc (Obj.cells #[Value.int .i64 x0, Value.int .i64 x1, Value.int .i64 x2, Value.int .i64 x3, Value.slice a4 n4 c4, Value.slice a5 n5 c5, Value.int .i64 x6, Value.int .i64 x7, Value.slice a8 n8 c8] 77)).alloc (Obj.cells #[Value.int .i64 0, Value.int .i64 0, Value.int .i64 0, Value.int .i64 0, Value.slice none 0 0, Value.slice none 0 0, Value.int .i64 0, Value.int .i64 0, Value.slice none 0 0] 83)).alloc (Obj.cells #[Value.int .i64 x0, Value.int .i64 x1, Value.int .i64 x2, Value.int .i64 x3, Value.slice none 0 0, Value.slice none 0 0, Value.int .i64 0, Value.int .i64 0, Value.slice none 0 0] 83)).cell? ⟨w.heap.size, 7, none⟩ = some (.int .i64 x7) := by simp [go_sem]
  have k8 : (((w.alloc (Obj.cells #[Value.int .i64 x0, Value.int .i64 x1, Value.int .i64 x2, Value.int .i64 x3, Value.slice a4 n4 c4, Value.slice a5 n5 c5, Value.int .i64 x6, Value.int .i64 x7, Value.slice a8 n8 c8] 77)).alloc (Obj.cells #[Value.int .i64 0, Value.int .i64 0, Value.int .i64 0, Value.int .i64 0, Value.slice none 0 0, Value.slice none 0 0, Value.int .i64 0, Value.int .i64 0, Value.slice none 0 0] 83)).alloc (Obj.cells #[Value.int .i64 x0, Value.int .i64 x1, Value.int .i64 x2, Value.int .i64 x3, Value.slice none 0 0, Value.slice none 0 0, Value.int .i64 0, Value.int .i64 0, Value.slice none 0 0] 83)).cell? ⟨w.heap.size, 8, none⟩ = some (.slice a8 n8 c8) := by simp [go_sem]
  have r0 : (((w.alloc (Obj.cells #[Value.int .i64 x0, Value.int .i64 x1, Value.int .i64 x2, Value.int .i64 x3, Value.slice a4 n4 c4, Value.slice a5 n5 c5, Value.int .i64 x6, Value.int .i64 x7, Value.slice a8 n8 c8] 77)).alloc (Obj.cells #[Value.int .i64 0, Value.int .i64 0, Value.int .i64 0, Value.int .i64 0, Value.slice none 0 0, Value.slice none 0 0, Value.int .i64 0, Value.int .i64 0, Value.slice none 0 0] 83)).alloc (Obj.cells #[Value.int .i64 x0, Value.int .i64 x1, Value.int .i64 x2, Value.int .i64 x3, Value.slice none 0 0, Value.slice none 0 0, Value.int .i64 0, Value.int .i64 0, Value.slice none 0 0] 83)).cell? ⟨w.heap.size + 1, 0, none⟩ = some (.int .i64 0) := by simp [go_sem]
  have r1 : (((w.alloc (Obj.cells #[Value.int .i64 x0, Value.int .i64 x1, Value.int .i64 x2, Value.int .i64 x3, Value.slice a4 n4 c4, Value.slice a5 n5 c5, Value.int .i64 x6, Value.int .i64 x7, Value.slice a8 n8 c8] 77)).alloc (Obj.cells #[Value.int .i64 0, Value.int .i64 0, Value.int .i64 0, Value.int .i64 0, Value.slice none 0 0, Value.slice none 0 0, Value.int .i64 0, Value.int .i64 0, Value.slice none 0 0] 83)).alloc (Obj.cells #[Value.int .i64 x0, Value.int .i64 x1, Value.int .i64 x2, Value.int .i64 x3, Value.slice none 0 0, Value.slice none 0 0, Value.int .i64 0, Value.int .i64 0, Value.slice none 0 0] 83)).cell? ⟨w.heap.size + 1, 1, none⟩ = some (.int .i64 0) := by simp [go_sem]
  have r2 : (((w.alloc (Obj.cells #[Value.int .i64 x0, Value.int .i64 x1, Value.int .i64 x2, Value.int .i64 x3, Value.slice a4 n4 c4, Value.slice a5 n5 c5, Value.int .i64 x6, Value.int .i64 x7, Value.slice a8 n8 c8] 77)).alloc (Obj.cells #[Value.int .i64 0, Value.int .i64 0, Value.int .i64 0, Value.int .i64 0, Value.slice none 0 0, Value.slice none 0 0, Value.int .i64 0, Value.int .i64 0, Value.slice none 0 0] 83)).alloc (Obj.cells #[Value.int .i64 x0, Value.int .i64 x1, Value.int .i64 x2, Value.int .i64 x3, Value.slice none 0 0, Value.slice none 0 0, Value.int .i64 0, Value.int .i64 0, Value.slice none 0 0] 83)).cell? ⟨w.heap.size + 1, 2, none⟩ = some (.int .i64 0) := by simp [go_sem]
  have r3 : (((w.alloc (Obj.cells #[Value.int .i64 x0, Value.int .i64 x1, Value.int .i64 x2, Value.int .i64 x3, Value.slice a4 n4 c4, Value.slice a5 n5 c5, Value.int .i64 x6, Value.int .i64 x7, Value.slice a8 n8 c8] 77)).alloc (Obj.cells #[Value.int .i64 0, Value.int .i64 0, Value.int .i64 0, Value.int .i64 0, Value.slice none 0 0, Value.slice none 0 0, Value.int .i64 0, Value.int .i64 0, Value.slice none 0 0] 83)).alloc (Obj.cells #[Value.int .i64 x0, Value.int .i64 x1, Value.int .i64 x2, Value.int .i64 x3, Value.slice none 0 0, Value.slice none 0 0, Value.int .i64 0, Value.int .i64 0, Value.slice none 0 0] 83)).cell? ⟨w.heap.size + 1, 3, none⟩ = some (.int .i64 0) := by simp [go_sem]
  have r4 : (((w.alloc (Obj.cells #[Value.int .i64 x0, Value.int .i64 x1, Value.int .i64 x2, Value.int .i64 x3, Value.slice a4 n4 c4, Value.slice a5 n5 c5, Value.int .i64 x6, Value.int .i64 x7, Value.slice a8 n8 c8] 77)).alloc (Obj.cells #[Value.int .i64 0, Value.int .i64 0, Value.int .i64 0, Value.int .i64 0, Value.slice none 0 0, Value.slice none 0 0, Value.int .i64 0, Value.int .i64 0, Value.slice none 0 0] 83)).alloc (Obj.cells #[Value.int .i64 x0, Value.int .i64 x1, Value.int .i64 x2, Value.int .i64 x3, Value.slice none 0 0, Value.slice none 0 0, Value.int .i64 0, Value.int .i64 0, Value.slice none 0 0] 83)).cell? ⟨w.heap.size + 1, 4, none⟩ = some (.slice none 0 0) := by simp [go_sem]
  have r5 : (((w.alloc (Obj.cells #[Value.int .i64 x0, Value.int .i64 x1, Value.int .i64 x2, Value.int .i64 x3, Value.slice a4 n4 c4, Value.slice a5 n5 c5, Value.int .i64 x6, Value.int .i64 x7, Value.slice a8 n8 c8] 77)).alloc (Obj.cells #[Value.int .i64 0, Value.int .i64 0, Value.int .i64 0, Value.int .i64 0, Value.slice none 0 0, Value.slice none 0 0, Value.int .i64 0, Value.int .i64 0, Value.slice none 0 0] 83)).alloc (Obj.cells #[Value.int .i64 x0, Value.int .i64 x1, Value.int .i64 x2, Value.int .i64 x3, Value.slice none 0 0, Value.slice none 0 0, Value.int .i64 0, Value.int .i64 0, Value.slice none 0 0] 83)).cell? ⟨w.heap.size + 1, 5, none⟩ = some (.slice none 0 0) := by simp [go_sem]
  have r6 : (((w.alloc (Obj.cells #[Value.int .i64 x0, Value.int .i64 x1, Value.int .i64 x2, Value.int .i64 x3, Value.slice a4 n4 c4, Value.slice a5 n5 c5, Value.int .i64 x6, Value.int .i64 x7, Value.slice a8 n8 c8] 77)).alloc (Obj.cells #[Value.int .i64 0, Value.int .i64 0, Value.int .i64 0, Value.int .i64 0, Value.slice none 0 0, Value.slice none 0 0, Value.int .i64 0, Value.int .i64 0, Value.slice none 0 0] 83)).alloc (Obj.cells #[Value.int .i64 x0, Value.int .i64 x1, Value.int .i64 x2, Value.int .i64 x3, Value.slice none 0 0, Value.slice none 0 0, Value.int .i64 0, Value.int .i64 0, Value.slice none 0 0] 83)).cell? ⟨w.heap.size + 1, 6, none⟩ = some (.int .i64 0) := by simp [go_sem]
  have r7 : (((w.alloc (Obj.cells #[Value.int .i64 x0, Value.int .i64 x1, Value.int .i64 x2, Value.int .i64 x3, Value.slice a4 n4 c4, Value.slice a5 n5 c5, Value.int .i64 x6, Value.int .i64 x7, Value.slice a8 n8 c8] 77)).alloc (Obj.cells #[Value.int .i64 0, Value.int .i64 0, Value.int .i64 0, Value.int .i64 0, Value.slice none 0 0, Value.slice none 0 0, Value.int .i64 0, Value.int .i64 0, Value.slice none 0 0] 83)).alloc (Obj.cells #[Value.int .i64 x0, Value.int .i64 x1, Value.int .i64 x2, Value.int .i64 x3, Value.slice none 0 0, Value.slice none 0 0, Value.int .i64 0, Value.int .i64 0, Value.slice none 0 0] 83)).cell? ⟨w.heap.size + 1, 7, none⟩ = some (.int .i64 0) := by simp [go_sem]
  have r8 : (((w.alloc (Obj.cells #[Value.int .i64 x0, Value.int .i64 x1, Value.int .i64 x2, Value.int .i64 x3, Value.slice a4 n4 c4, Value.slice a5 n5 c5, Value.int .i64 x6, Value.int .i64 x7, Value.slice a8 n8 c8] 77)).alloc (Obj.cells #[Value.int .i64 0, Value.int .i64 0, Value.int .i64 0, Value.int .i64 0, Value.slice none 0 0, Value.slice none 0 0, Value.int .i64 0, Value.int .i64 0, Value.slice none 0 0] 83)).alloc (Obj.cells #[Value.int .i64 x0, Value.int .i64 x1, Value.int .i64 x2, Value.int .i64 x3, Value.slice none 0 0, Value.slice none 0 0, Value.int .i64 0, Value.int .i64 0, Value.slice none 0 0] 83)).cell? ⟨w.heap.size + 1, 8, none⟩ = some (.slice none 0 0) := by simp [go_sem]
  have p0 : (((w.alloc (Obj.cells #[Value.int .i64 x0, Value.int .i64 x1, Value.int .i64 x2, Value.int .i64 x3, Value.slice a4 n4 c4, Value.slice a5 n5 c5, Value.int .i64 x6, Value.int .i64 x7, Value.slice a8 n8 c8] 77)).alloc (Obj.cells #[Value.int .i64 0, Value.int .i64 0, Value.int .i64 0, Value.int .i64 0, Value.slice none 0 0, Value.slice none 0 0, Value.int .i64 0, Value.int .i64 0, Value.slice none 0 0] 83)).alloc (Obj.cells #[Value.int .i64 x0, Value.int .i64 x1, Value.int .i64 x2, Value.int .i64 x3, Value.slice none 0 0, Value.slice none 0 0, Value.int .i64 0, Value.int .i64 0, Value.slice none 0 0] 83)).cell? ⟨w.heap.size + 1 + 1, 0, none⟩ = some (.int .i64 x0) := by simp [go_sem]
  have p1 : (((w.alloc (Obj.cells #[Value.int .i64 x0, Value.int .i64 x1, Value.int .i64 x2, Value.int .i64 x3, Value.slice a4 n4 c4, Value.slice a5 n5 c5, Value.int .i64 x6, Value.int .i64 x7, Value.slice a8 n8 c8] 77)).alloc (Obj.cells #[Value.int .i64 0, Value.int .i64 0, Value.int .i64 0, Value.int .i64 0, Value.slice none 0 0, Value.slice none 0 0, Value.int .i64 0, Value.int .i64 0, Value.slice none 0 0] 83)).alloc (Obj.cells #[Value.int .i64 x0, Value.int .i64 x1, Value.int .i64 x2, Value.int .i64 x3, Value.slice none 0 0, Value.slice none 0 0, Value.int .i64 0, Value.int .i64 0, Value.slice none 0 0] 83)).cell? ⟨w.heap.size + 1 + 1, 1, none⟩ = some (.int .i64 x1) := by simp [go_sem]
  have p2 : (((w.alloc (Obj.cells #[Value.int .i64 x0, Value.int .i64 x1, Value.int .i64 x2, Value.int .i64 x3, Value.slice a4 n4 c4, Value.slice a5 n5 c5, Value.int .i64 x6, Value.int .i64 x7, Value.slice a8 n8 c8] 77)).alloc (Obj.cells #[Value.int .i64 0, Value.int .i64 0, Value.int .i64 0, Value.int .i64 0, Value.slice none 0 0, Value.slice none 0 0, Value.int .i64 0, Value.int .i64 0, Value.slice none 0 0] 83)).alloc (Obj.cells #[Value.int .i64 x0, Value.int .i64 x1, Value.int .i64 x2, Value.int .i64 x3, Value.slice none 0 0, Value.slice none 0 0, Value.int .i64 0, Value.int .i64 0, Value.slice none 0 0] 83)).cell? ⟨w.heap.size + 1 + 1, 2, none⟩ = some (.int .i64 x2) := by simp [go_sem]
  have p3 : (((w.alloc (Obj.cells #[Value.int .i64 x0, Value.int .i64 x1, Value.int .i64 x2, Value.int .i64 x3, Value.slice a4 n4 c4, Value.slice a5 n5 c5, Value.int .i64 x6, Value.int .i64 x7, Value.slice a8 n8 c8] 77)).alloc (Obj.cells #[Value.int .i64 0, Value.int .i64 0, Value.int .i64 0, Value.int .i64 0, Value.slice none 0 0, Value.slice none 0 0, Value.int .i64 0, Value.int .i64 0, Value.slice none 0 0] 83)).alloc (Obj.cells #[Value.int .i64 x0, Value.int .i64 x1, Value.int .i64 x2, Value.int .i64 x3, Value.slice none 0 0, Value.slice none 0 0, Value.int .i64 0, Value.int .i64 0, Value.slice none 0 0] 83)).cell? ⟨w.heap.size + 1 + 1, 3, none⟩ = some (.int .i64 x3) := by simp [go_sem]
  have p4 : (((w.alloc (Obj.cells #[Value.int .i64 x0, Value.int .i64 x1, Value.int .i64 x2, Value.int .i64 x3, Value.slice a4 n4 c4, Value.slice a5 n5 c5, Value.int .i64 x6, Value.int .i64 x7, Value.slice a8 n8 c8] 77)).alloc (Obj.cells #[Value.int .i64 0, Value.int .i64 0, Value.int .i64 0, Value.int .i64 0, Value.slice none 0 0, Value.slice none 0 0, Value.int .i64 0, Value.int .i64 0, Value.slice none 0 0] 83)).alloc (Obj.cells #[Value.int .i64 x0, Value.int .i64 x1, Value.int .i64 x2, Value.int .i64 x3, Value.slice none 0 0, Value.slice none 0 0, Value.int .i64 0, Value.int .i64 0, Value.slice none 0 0] 83)).cell? ⟨w.heap.size + 1 + 1, 4, none⟩ = some (.slice none 0 0) := by simp [go_sem]
  have p5 : (((w.alloc (Obj.cells #[Value.int .i64 x0, Value.int .i64 x1, Value.int .i64 x2, Value.int .i64 x3, Value.slice a4 n4 c4, Value.slice a5 n5 c5, Value.int .i64 x6, Value.int .i64 x7, Value.slice a8 n8 c8] 77)).alloc (Obj.cells #[Value.int .i64 0, Value.int .i64 0, Value.int .i64 0, Value.int .i64 0, Value.slice none 0 0, Value.slice none 0 0, Value.int .i64 0, Value.int .i64 0, Value.slice none 0 0] 83)).alloc (Obj.cells #[Value.int .i64 x0, Value.int .i64 x1, Value.int .i64 x2, Value.int .i64 x3, Value.slice none 0 0, Value.slice none 0 0, Value.int .i64 0, Value.int .i64 0, Value.slice none 0 0] 83)).cell? ⟨w.heap.size + 1 + 1, 5, none⟩ = some (.slice none 0 0) := by simp [go_sem]
  have p6 : (((w.alloc (Obj.cells #[Value.int .i64 x0, Value.int .i64 x1, Value.int .i64 x2, Value.int .i64 x3, Value.slice a4 n4 c4, Value.slice a5 n5 c5, Value.int .i64 x6, Value.int .i64 x7, Value.slice a8 n8 c8] 77)).alloc (Obj.cells #[Value.int .i64 0, Value.int .i64 0, Value.int .i64 0, Value.int .i64 0, Value.slice none 0 0, Value.slice none 0 0, Value.int .i64 0, Value.int .i64 0, Value.slice none 0 0] 83)).alloc (Obj.cells #[Value.int .i64 x0, Value.int .i64 x1, Value.int .i64 x2, Value.int .i64 x3, Value.slice none 0 0, Value.slice none 0 0, Value.int .i64 0, Value.int .i64 0, Value.slice none 0 0] 83)).cell? ⟨w.heap.size + 1 + 1, 6, none⟩ = some (.int .i64 0) := by simp [go_sem]
  have p7 : (((w.alloc (Obj.cells #[Value.int .i64 x0, Value.int .i64 x1, Value.int .i64 x2, Value.int .i64 x3, Value.slice a4 n4 c4, Value.slice a5 n5 c5, Value.int .i64 x6, Value.int .i64 x7, Value.slice a8 n8 c8] 77)).alloc (Obj.cells #[Value.int .i64 0, Value.int .i64 0, Value.int .i64 0, Value.int .i64 0, Value.slice none 0 0, Value.slice none 0 0, Value.int .i64 0, Value.int .i64 0, Value.slice none 0 0] 83)).alloc (Obj.cells #[Value.int .i64 x0, Value.int .i64 x1, Value.int .i64 x2, Value.int .i64 x3, Value.slice none 0 0, Value.slice none 0 0, Value.int .i64 0, Value.int .i64 0, Value.slice none 0 0] 83)).cell? ⟨w.heap.size + 1 + 1, 7, none⟩ = some (.int .i64 0) := by simp [go_sem]
  have p8 : (((w.alloc (Obj.cells #[Value.int .i64 x0, Value.int .i64 x1, Value.int .i64 x2, Value.int .i64 x3, Value.slice a4 n4 c4, Value.slice a5 n5 c5, Value.int .i64 x6, Value.int .i64 x7, Value.slice a8 n8 c8] 77)).alloc (Obj.cells #[Value.int .i64 0, Value.int .i64 0, Value.int .i64 0, Value.int .i64 0, Value.slice none 0 0, Value.slice none 0 0, Value.int .i64 0, Value.int .i64 0, Value.slice none 0 0] 83)).alloc (Obj.cells #[Value.int .i64 x0, Value.int .i64 x1, Value.int .i64 x2, Value.int .i64 x3, Value.slice none 0 0, Value.slice none 0 0, Value.int .i64 0, Value.int .i64 0, Value.slice none 0 0] 83)).cell? ⟨w.heap.size + 1 + 1, 8, none⟩ = some (.slice none 0 0) := by simp [go_sem]
  have fr : ∀ q, (((w.alloc (Obj.cells #[Value.int .i64 x0, Value.int .i64 x1, Value.int .i64 x2, Value.int .i64 x3, Value.slice a4 n4 c4, Value.slice a5 n5 c5, Value.int .i64 x6, Value.int .i64 x7, Value.slice a8 n8 c8] 77)).alloc (Obj.cells #[Value.int .i64 0, Value.int .i64 0, Value.int .i64 0, Value.int .i64 0, Value.slice none 0 0, Value.slice none 0 0, Value.int .i64 0, Value.int .i64 0, Value.slice none 0 0] 83)).alloc (Obj.cells #[Value.int .i64 x0, Value.int .i64 x1, Value.int .i64 x2, Value.int .i64 x3, Value.slice none 0 0, Value.slice none 0 0, Value.int .i64 0, Value.int .i64 0, Value.slice none 0 0] 83)).frozen? ⟨w.heap.size + 1, q, none⟩ = false := fun q => by simp [go_sem]
  have fp : ∀ q, (((w.alloc (Obj.cells #[Value.int .i64 x0, Value.int .i64 x1, Value.int .i64 x2, Value.int .i64 x3, Value.slice a4 n4 c4, Value.slice a5 n5 c5, Value.int .i64 x6, Value.int .i64 x7, Value.slice a8 n8 c8] 77)).alloc (Obj.cells #[Value.int .i64 0, Value.int .i64 0, Value.int .i64 0, Value.int .i64 0, Value.slice none 0 0, Value.slice none 0 0, Value.int .i64 0, Value.int .i64 0, Value.slice none 0 0] 83)).alloc (Obj.cells #[Value.int .i64 x0, Value.int .i64 x1, Value.int .i64 x2, Value.int .i64 x3, Value.slice none 0 0, Value.slice none 0 0, Value.int .i64 0, Value.int .i64 0, Value.slice none 0 0] 83)).frozen? ⟨w.heap.size + 1 + 1, q, none⟩ = false := fun q => by simp [go_sem]
  have sz0 : (((w.alloc (Obj.cells #[Value.int .i64 x0, Value.int .i64 x1, Value.int .i64 x2, Value.int .i64 x3, Value.slice a4 n4 c4, Value.slice a5 n5 c5, Value.int .i64 x6, Value.int .i64 x7, Value.slice a8 n8 c8] 77)).alloc (Obj.cells #[Value.int .i64 0, Value.int .i64 0, Value.int .i64 0, Value.int .i64 0, Value.slice none 0 0, Value.slice none 0 0, Value.int .i64 0, Value.int .i64 0, Value.slice none 0 0] 83)).alloc (Obj.cells #[Value.int .i64 x0, Value.int .i64 x1, Value.int .i64 x2, Value.int .i64 x3, Value.slice none 0 0, Value.slice none 0 0, Value.int .i64 0, Value.int .i64 0, Value.slice none 0 0] 83)).heap.size = w.heap.size + 1 + 1 + 1 := by simp only [World.size_alloc]
  go_enter Try.func36, Try.ntmps36
  go_wp2_with fail
  generalize (((w.alloc (Obj.cells #[Value.int .i64 x0, Value.int .i64 x1, Value.int .i64 x2, Value.int .i64 x3, Value.slice a4 n4 c4, Value.slice a5 n5 c5, Value.int .i64 x6, Value.int .i64 x7, Value.slice a8 n8 c8] 77)).alloc (Obj.cells #[Value.int .i64 0, Value.int .i64 0, Value.int .i64 0, Value.int .i64 0, Value.slice none 0 0, Value.slice none 0 0, Value.int .i64 0, Value.int .i64 0, Value.slice none 0 0] 83)).alloc (Obj.cells #[Value.int .i64 x0, Value.int .i64 x1, Value.int .i64 x2, Value.int .i64 x3, Value.slice none 0 0, Value.slice none 0 0, Value.int .i64 0, Value.int .i64 0, Value.slice none 0 0] 83)) = u0 at *
  refine (toMessageS a4 n4 c4 B z4 _ (h4.mk M hB (.inr (Nat.le_refl _))) (Nat.le_trans hB M.size) hn4).mono ?_
  rintro e w1 ⟨b4, rfl, o4, m1⟩
  have zt1 := m1.size
  replace k5 := m1.cellAt k5
  replace k6 := m1.cellAt k6
  replace k7 := m1.cellAt k7
  replace k8 := m1.cellAt k8
  clear k4
  replace r0 := m1.cellAt r0
  replace r1 := m1.cellAt r1
  replace r2 := m1.cellAt r2
  replace r3 := m1.cellAt r3
  replace r4 := m1.cellAt r4
  replace r5 := m1.cellAt r5
  replace r6 := m1.cellAt r6
  replace r7 := m1.cellAt r7
  replace r8 := m1.cellAt r8
  replace p0 := m1.cellAt p0
  replace p1 := m1.cellAt p1
  replace p2 := m1.cellAt p2
  replace p3 := m1.cellAt p3
  replace p4 := m1.cellAt p4
  replace p5 := m1.cellAt p5
  replace p6 := m1.cellAt p6
  replace p7 := m1.cellAt p7
  replace p8 := m1.cellAt p8
  replace fr := fun q => (m1.frozen (b := w.heap.size + 1) (o := q) (by omega) (.inr (Nat.zero_le _))).trans (fr q)
  replace fp := fun q => (m1.frozen (b := w.heap.size + 1 + 1) (o := q) (by omega) (.inr (Nat.zero_le _))).trans (fp q)
  replace M := M.trans m1
  clear m1
  go_wp2_with fail
  replace p0 := cell_set p0 ⟨w.heap.size + 1 + 1, 4, none⟩ (.slice (some ⟨b4, 0, none⟩) n4 n4) (.inr (by simp))
  replace p1 := cell_set p1 ⟨w.heap.size + 1 + 1, 4, none⟩ (.slice (some ⟨b4, 0, none⟩) n4 n4) (.inr (by simp))
  replace p2 := cell_set p2 ⟨w.heap.size + 1 + 1, 4, none⟩ (.slice (some ⟨b4, 0, none⟩) n4 n4) (.inr (by simp))
  replace p3 := cell_set p3 ⟨w.heap.size + 1 + 1, 4, none⟩ (.slice (some ⟨b4, 0, none⟩) n4 n4) (.inr (by simp))
  replace p4 := World.cell?_setCell_same _ _ (.slice (some ⟨b4, 0, none⟩) n4 n4) p4
  replace p5 := cell_set p5 ⟨w.heap.size + 1 + 1, 4, none⟩ (.slice (some ⟨b4, 0, none⟩) n4 n4) (.inr (by simp))
  replace p6 := cell_set p6 ⟨w.heap.size + 1 + 1, 4, none⟩ (.slice (some ⟨b4, 0, none⟩) n4 n4) (.inr (by simp))
  replace p7 := cell_set p7 ⟨w.heap.size + 1 + 1, 4, none⟩ (.slice (some ⟨b4, 0, none⟩) n4 n4) (.inr (by simp))
  replace p8 := cell_set p8 ⟨w.heap.size + 1 + 1, 4, none⟩ (.slice (some ⟨b4, 0, none⟩) n4 n4) (.inr (by simp))
  replace r0 := cell_set r0 ⟨w.heap.size + 1 + 1, 4, none⟩ (.slice (some ⟨b4, 0, none⟩) n4 n4) (.inl (show w.heap.size + 1 + 1 ≠ w.heap.size + 1 from by omega))
  replace r1 := cell_set r1 ⟨w.heap.size + 1 + 1, 4, none⟩ (.slice (some ⟨b4, 0, none⟩) n4 n4) (.inl (show w.heap.size + 1 + 1 ≠ w.heap.size + 1 from by omega))
  replace r2 := cell_set r2 ⟨w.heap.size + 1 + 1, 4, none⟩ (.slice (some ⟨b4, 0, none⟩) n4 n4) (.inl (show w.heap.size + 1 + 1 ≠ w.heap.size + 1 from by omega))
  replace r3 := cell_set r3 ⟨w.heap.size + 1 + 1, 4, none⟩ (.slice (some ⟨b4, 0, none⟩) n4 n4) (.inl (show w.heap.size + 1 + 1 ≠ w.heap.size + 1 from by omega))
  replace r4 := cell_set r4 ⟨w.heap.size + 1 + 1, 4, none⟩ (.slice (some ⟨b4, 0, none⟩) n4 n4) (.inl (show w.heap.size + 1 + 1 ≠ w.heap.size + 1 from by omega))
  replace r5 := cell_set r5 ⟨w.heap.size + 1 + 1, 4, none⟩ (.slice (some ⟨b4, 0, none⟩) n4 n4) (.inl (show w.heap.size + 1 + 1 ≠ w.heap.size + 1 from by omega))
  replace r6 := cell_set r6 ⟨w.heap.size + 1 + 1, 4, none⟩ (.slice (some ⟨b4, 0, none⟩) n4 n4) (.inl (show w.heap.size + 1 + 1 ≠ w.heap.size + 1 from by omega))
  replace r7 := cell_set r7 ⟨w.heap.size + 1 + 1, 4, none⟩ (.slice (some ⟨b4, 0, none⟩) n4 n4) (.inl (show w.heap.size + 1 + 1 ≠ w.heap.size + 1 from by omega))
  replace r8 := cell_set r8 ⟨w.heap.size + 1 + 1, 4, none⟩ (.slice (some ⟨b4, 0, none⟩) n4 n4) (.inl (show w.heap.size + 1 + 1 ≠ w.heap.size + 1 from by omega))
  replace k5 := cell_set k5 ⟨w.heap.size + 1 + 1, 4, none⟩ (.slice (some ⟨b4, 0, none⟩) n4 n4) (.inl (show w.heap.size + 1 + 1 ≠ w.heap.size from by omega))
  replace k6 := cell_set k6 ⟨w.heap.size + 1 + 1, 4, none⟩ (.slice (some ⟨b4, 0, none⟩) n4 n4) (.inl (show w.heap.size + 1 + 1 ≠ w.heap.size from by omega))
  replace k7 := cell_set k7 ⟨w.heap.size + 1 + 1, 4, none⟩ (.slice (some ⟨b4, 0, none⟩) n4 n4) (.inl (show w.heap.size + 1 + 1 ≠ w.heap.size from by omega))
  replace k8 := cell_set k8 ⟨w.heap.size + 1 + 1, 4, none⟩ (.slice (some ⟨b4, 0, none⟩) n4 n4) (.inl (show w.heap.size + 1 + 1 ≠ w.heap.size from by omega))
  replace fr := fun q => frozen_set (fr q) ⟨w.heap.size + 1 + 1, 4, none⟩ (.slice (some ⟨b4, 0, none⟩) n4 n4)
  replace fp := fun q => frozen_set (fp q) ⟨w.heap.size + 1 + 1, 4, none⟩ (.slice (some ⟨b4, 0, none⟩) n4 n4)
  replace o4 := o4.set ⟨w.heap.size + 1 + 1, 4, none⟩ (.slice (some ⟨b4, 0, none⟩) n4 n4) (.inl (show w.heap.size + 1 + 1 < _ from by omega))
  replace M := M.put ⟨w.heap.size + 1 + 1, 4, none⟩ (.slice (some ⟨b4, 0, none⟩) n4 n4) (show w.heap.size ≤ w.heap.size + 1 + 1 from by omega)
  have zu1 : (w1.setCell ⟨w.heap.size + 1 + 1, 4, none⟩ (.slice (some ⟨b4, 0, none⟩) n4 n4)).heap.size = w1.heap.size := by simp [World.setCell]
  generalize (w1.setCell ⟨w.heap.size + 1 + 1, 4, none⟩ (.slice (some ⟨b4, 0, none⟩) n4 n4)) = u1 at *
  refine (toPathS a5 n5 c5 B z5 _ (h5.mk M hB (.inr (Nat.le_refl _))) (Nat.le_trans hB M.size) hn5).mono ?_
  rintro e w2 ⟨b5, rfl, o5, m2⟩
  have zt2 := m2.size
  replace k6 := m2.cellAt k6
  replace k7 := m2.cellAt k7
  replace k8 := m2.cellAt k8
  clear k5
  replace r0 := m2.cellAt r0
  replace r1 := m2.cellAt r1
  replace r2 := m2.cellAt r2
  replace r3 := m2.cellAt r3
  replace r4 := m2.cellAt r4
  replace r5 := m2.cellAt r5
  replace r6 := m2.cellAt r6
  replace r7 := m2.cellAt r7
  replace r8 := m2.cellAt r8
  replace p0 := m2.cellAt p0
  replace p1 := m2.cellAt p1
  replace p2 := m2.cellAt p2
  replace p3 := m2.cellAt p3
  replace p4 := m2.cellAt p4
  replace p5 := m2.cellAt p5
  replace p6 := m2.cellAt p6
  replace p7 := m2.cellAt p7
  replace p8 := m2.cellAt p8
  replace fr := fun q => (m2.frozen (b := w.heap.size + 1) (o := q) (by omega) (.inr (Nat.zero_le _))).trans (fr q)
  replace fp := fun q => (m2.frozen (b := w.heap.size + 1 + 1) (o := q) (by omega) (.inr (Nat.zero_le _))).trans (fp q)
  replace o4 := o4.mk m2 (by omega) (.inr (.inr (Nat.le_refl _)))
  replace M := M.trans m2
  clear m2
  go_wp2_with fail
  replace p0 := cell_set p0 ⟨w.heap.size + 1 + 1, 5, none⟩ (.slice (some ⟨b5, 0, none⟩) n5 n5) (.inr (by simp))
  replace p1 := cell_set p1 ⟨w.heap.size + 1 + 1, 5, none⟩ (.slice (some ⟨b5, 0, none⟩) n5 n5) (.inr (by simp))
  replace p2 := cell_set p2 ⟨w.heap.size + 1 + 1, 5, none⟩ (.slice (some ⟨b5, 0, none⟩) n5 n5) (.inr (by simp))
  replace p3 := cell_set p3 ⟨w.heap.size + 1 + 1, 5, none⟩ (.slice (some ⟨b5, 0, none⟩) n5 n5) (.inr (by simp))
  replace p4 := cell_set p4 ⟨w.heap.size + 1 + 1, 5, none⟩ (.slice (some ⟨b5, 0, none⟩) n5 n5) (.inr (by simp))
  replace p5 := World.cell?_setCell_same _ _ (.slice (some ⟨b5, 0, none⟩) n5 n5) p5
  replace p6 := cell_set p6 ⟨w.heap.size + 1 + 1, 5, none⟩ (.slice (some ⟨b5, 0, none⟩) n5 n5) (.inr (by simp))
  replace p7 := cell_set p7 ⟨w.heap.size + 1 + 1, 5, none⟩ (.slice (some ⟨b5, 0, none⟩) n5 n5) (.inr (by simp))
  replace p8 := cell_set p8 ⟨w.heap.size + 1 + 1, 5, none⟩ (.slice (some ⟨b5, 0, none⟩) n5 n5) (.inr (by simp))
  replace r0 := cell_set r0 ⟨w.heap.size + 1 + 1, 5, none⟩ (.slice (some ⟨b5, 0, none⟩) n5 n5) (.inl (show w.heap.size + 1 + 1 ≠ w.heap.size + 1 from by omega))
  replace r1 := cell_set r1 ⟨w.heap.size + 1 + 1, 5, none⟩ (.slice (some ⟨b5, 0, none⟩) n5 n5) (.inl (show w.heap.size + 1 + 1 ≠ w.heap.size + 1 from by omega))
  replace r2 := cell_set r2 ⟨w.heap.size + 1 + 1, 5, none⟩ (.slice (some ⟨b5, 0, none⟩) n5 n5) (.inl (show w.heap.size + 1 + 1 ≠ w.heap.size + 1 from by omega))
  replace r3 := cell_set r3 ⟨w.heap.size + 1 + 1, 5, none⟩ (.slice (some ⟨b5, 0, none⟩) n5 n5) (.inl (show w.heap.size + 1 + 1 ≠ w.heap.size + 1 from by omega))
  replace r4 := cell_set r4 ⟨w.heap.size + 1 + 1, 5, none⟩ (.slice (some ⟨b5, 0, none⟩) n5 n5) (.inl (show w.heap.size + 1 + 1 ≠ w.heap.size + 1 from by omega))
  replace r5 := cell_set r5 ⟨w.heap.size + 1 + 1, 5, none⟩ (.slice (some ⟨b5, 0, none⟩) n5 n5) (.inl (show w.heap.size + 1 + 1 ≠ w.heap.size + 1 from by omega))
  replace r6 := cell_set r6 ⟨w.heap.size + 1 + 1, 5, none⟩ (.slice (some ⟨b5, 0, none⟩) n5 n5) (.inl (show w.heap.size + 1 + 1 ≠ w.heap.size + 1 from by omega))
  replace r7 := cell_set r7 ⟨w.heap.size + 1 + 1, 5, none⟩ (.slice (some ⟨b5, 0, none⟩) n5 n5) (.inl (show w.heap.size + 1 + 1 ≠ w.heap.size + 1 from by omega))
  replace r8 := cell_set r8 ⟨w.heap.size + 1 + 1, 5, none⟩ (.slice (some ⟨b5, 0, none⟩) n5 n5) (.inl (show w.heap.size + 1 + 1 ≠ w.heap.size + 1 from by omega))
  replace k6 := cell_set k6 ⟨w.heap.size + 1 + 1, 5, none⟩ (.slice (some ⟨b5, 0, none⟩) n5 n5) (.inl (show w.heap.size + 1 + 1 ≠ w.heap.size from by omega))
  replace k7 := cell_set k7 ⟨w.heap.size + 1 + 1, 5, none⟩ (.slice (some ⟨b5, 0, none⟩) n5 n5) (.inl (show w.heap.size + 1 + 1 ≠ w.heap.size from by omega))
  replace k8 := cell_set k8 ⟨w.heap.size + 1 + 1, 5, none⟩ (.slice (some ⟨b5, 0, none⟩) n5 n5) (.inl (show w.heap.size + 1 + 1 ≠ w.heap.size from by omega))
  replace fr := fun q => frozen_set (fr q) ⟨w.heap.size + 1 + 1, 5, none⟩ (.slice (some ⟨b5, 0, none⟩) n5 n5)
  replace fp := fun q => frozen_set (fp q) ⟨w.heap.size + 1 + 1, 5, none⟩ (.slice (some ⟨b5, 0, none⟩) n5 n5)
  replace o4 := o4.set ⟨w.heap.size + 1 + 1, 5, none⟩ (.slice (some ⟨b5, 0, none⟩) n5 n5) (.inl (show w.heap.size + 1 + 1 < _ from by omega))
  replace o5 := o5.set ⟨w.heap.size + 1 + 1, 5, none⟩ (.slice (some ⟨b5, 0, none⟩) n5 n5) (.inl (show w.heap.size + 1 + 1 < _ from by omega))
  replace M := M.put ⟨w.heap.size + 1 + 1, 5, none⟩ (.slice (some ⟨b5, 0, none⟩) n5 n5) (show w.heap.size ≤ w.heap.size + 1 + 1 from by omega)
  replace p0 := cell_set p0 ⟨w.heap.size + 1 + 1, 6, none⟩ (.int .i64 x6) (.inr (by simp))
  replace p1 := cell_set p1 ⟨w.heap.size + 1 + 1, 6, none⟩ (.int .i64 x6) (.inr (by simp))
  replace p2 := cell_set p2 ⟨w.heap.size + 1 + 1, 6, none⟩ (.int .i64 x6) (.inr (by simp))
  replace p3 := cell_set p3 ⟨w.heap.size + 1 + 1, 6, none⟩ (.int .i64 x6) (.inr (by simp))
  replace p4 := cell_set p4 ⟨w.heap.size + 1 + 1, 6, none⟩ (.int .i64 x6) (.inr (by simp))
  replace p5 := cell_set p5 ⟨w.heap.size + 1 + 1, 6, none⟩ (.int .i64 x6) (.inr (by simp))
  replace p6 := World.cell?_setCell_same _ _ (.int .i64 x6) p6
  replace p7 := cell_set p7 ⟨w.heap.size + 1 + 1, 6, none⟩ (.int .i64 x6) (.inr (by simp))
  replace p8 := cell_set p8 ⟨w.heap.size + 1 + 1, 6, none⟩ (.int .i64 x6) (.inr (by simp))
  replace r0 := cell_set r0 ⟨w.heap.size + 1 + 1, 6, none⟩ (.int .i64 x6) (.inl (show w.heap.size + 1 + 1 ≠ w.heap.size + 1 from by omega))
  replace r1 := cell_set r1 ⟨w.heap.size + 1 + 1, 6, none⟩ (.int .i64 x6) (.inl (show w.heap.size + 1 + 1 ≠ w.heap.size + 1 from by omega))
  replace r2 := cell_set r2 ⟨w.heap.size + 1 + 1, 6, none⟩ (.int .i64 x6) (.inl (show w.heap.size + 1 + 1 ≠ w.heap.size + 1 from by omega))
  replace r3 := cell_set r3 ⟨w.heap.size + 1 + 1, 6, none⟩ (.int .i64 x6) (.inl (show w.heap.size + 1 + 1 ≠ w.heap.size + 1 from by omega))
  replace r4 := cell_set r4 ⟨w.heap.size + 1 + 1, 6, none⟩ (.int .i64 x6) (.inl (show w.heap.size + 1 + 1 ≠ w.heap.size + 1 from by omega))
  replace r5 := cell_set r5 ⟨w.heap.size + 1 + 1, 6, none⟩ (.int .i64 x6) (.inl (show w.heap.size + 1 + 1 ≠ w.heap.size + 1 from by omega))
  replace r6 := cell_set r6 ⟨w.heap.size + 1 + 1, 6, none⟩ (.int .i64 x6) (.inl (show w.heap.size + 1 + 1 ≠ w.heap.size + 1 from by omega))
  replace r7 := cell_set r7 ⟨w.heap.size + 1 + 1, 6, none⟩ (.int .i64 x6) (.inl (show w.heap.size + 1 + 1 ≠ w.heap.size + 1 from by omega))
  replace r8 := cell_set r8 ⟨w.heap.size + 1 + 1, 6, none⟩ (.int .i64 x6) (.inl (show w.heap.size + 1 + 1 ≠ w.heap.size + 1 from by omega))
  replace k6 := cell_set k6 ⟨w.heap.size + 1 + 1, 6, none⟩ (.int .i64 x6) (.inl (show w.heap.size + 1 + 1 ≠ w.heap.size from by omega))
  replace k7 := cell_set k7 ⟨w.heap.size + 1 + 1, 6, none⟩ (.int .i64 x6) (.inl (show w.heap.size + 1 + 1 ≠ w.heap.size from by omega))
  replace k8 := cell_set k8 ⟨w.heap.size + 1 + 1, 6, none⟩ (.int .i64 x6) (.inl (show w.heap.size + 1 + 1 ≠ w.heap.size from by omega))
  replace fr := fun q => frozen_set (fr q) ⟨w.heap.size + 1 + 1, 6, none⟩ (.int .i64 x6)
  replace fp := fun q => frozen_set (fp q) ⟨w.heap.size + 1 + 1, 6, none⟩ (.int .i64 x6)
  replace o4 := o4.set ⟨w.heap.size + 1 + 1, 6, none⟩ (.int .i64 x6) (.inl (show w.heap.size + 1 + 1 < _ from by omega))
  replace o5 := o5.set ⟨w.heap.size + 1 + 1, 6, none⟩ (.int .i64 x6) (.inl (show w.heap.size + 1 + 1 < _ from by omega))
  replace M := M.put ⟨w.heap.size + 1 + 1, 6, none⟩ (.int .i64 x6) (show w.heap.size ≤ w.heap.size + 1 + 1 from by omega)
  replace p0 := cell_set p0 ⟨w.heap.size + 1 + 1, 7, none⟩ (.int .i64 x7) (.inr (by simp))
  replace p1 := cell_set p1 ⟨w.heap.size + 1 + 1, 7, none⟩ (.int .i64 x7) (.inr (by simp))
  replace p2 := cell_set p2 ⟨w.heap.size + 1 + 1, 7, none⟩ (.int .i64 x7) (.inr (by simp))
  replace p3 := cell_set p3 ⟨w.heap.size + 1 + 1, 7, none⟩ (.int .i64 x7) (.inr (by simp))
  replace p4 := cell_set p4 ⟨w.heap.size + 1 + 1, 7, none⟩ (.int .i64 x7) (.inr (by simp))
  replace p5 := cell_set p5 ⟨w.heap.size + 1 + 1, 7, none⟩ (.int .i64 x7) (.inr (by simp))
  replace p6 := cell_set p6 ⟨w.heap.size + 1 + 1, 7, none⟩ (.int .i64 x7) (.inr (by simp))
  replace p7 := World.cell?_setCell_same _ _ (.int .i64 x7) p7
  replace p8 := cell_set p8 ⟨w.heap.size + 1 + 1, 7, none⟩ (.int .i64 x7) (.inr (by simp))
  replace r0 := cell_set r0 ⟨w.heap.size + 1 + 1, 7, none⟩ (.int .i64 x7) (.inl (show w.heap.size + 1 + 1 ≠ w.heap.size + 1 from by omega))
  replace r1 := cell_set r1 ⟨w.heap.size + 1 + 1, 7, none⟩ (.int .i64 x7) (.inl (show w.heap.size + 1 + 1 ≠ w.heap.size + 1 from by omega))
  replace r2 := cell_set r2 ⟨w.heap.size + 1 + 1, 7, none⟩ (.int .i64 x7) (.inl (show w.heap.size + 1 + 1 ≠ w.heap.size + 1 from by omega))
  replace r3 := cell_set r3 ⟨w.heap.size + 1 + 1, 7, none⟩ (.int .i64 x7) (.inl (show w.heap.size + 1 + 1 ≠ w.heap.size + 1 from by omega))
  replace r4 := cell_set r4 ⟨w.heap.size + 1 + 1, 7, none⟩ (.int .i64 x7) (.inl (show w.heap.size + 1 + 1 ≠ w.heap.size + 1 from by omega))
  replace r5 := cell_set r5 ⟨w.heap.size + 1 + 1, 7, none⟩ (.int .i64 x7) (.inl (show w.heap.size + 1 + 1 ≠ w.heap.size + 1 from by omega))
  replace r6 := cell_set r6 ⟨w.heap.size + 1 + 1, 7, none⟩ (.int .i64 x7) (.inl (show w.heap.size + 1 + 1 ≠ w.heap.size + 1 from by omega))
  replace r7 := cell_set r7 ⟨w.heap.size + 1 + 1, 7, none⟩ (.int .i64 x7) (.inl (show w.heap.size + 1 + 1 ≠ w.heap.size + 1 from by omega))
  replace r8 := cell_set r8 ⟨w.heap.size + 1 + 1, 7, none⟩ (.int .i64 x7) (.inl (show w.heap.size + 1 + 1 ≠ w.heap.size + 1 from by omega))
  replace k6 := cell_set k6 ⟨w.heap.size + 1 + 1, 7, none⟩ (.int .i64 x7) (.inl (show w.heap.size + 1 + 1 ≠ w.heap.size from by omega))
  replace k7 := cell_set k7 ⟨w.heap.size + 1 + 1, 7, none⟩ (.int .i64 x7) (.inl (show w.heap.size + 1 + 1 ≠ w.heap.size from by omega))
  replace k8 := cell_set k8 ⟨w.heap.size + 1 + 1, 7, none⟩ (.int .i64 x7) (.inl (show w.heap.size + 1 + 1 ≠ w.heap.size from by omega))
  replace fr := fun q => frozen_set (fr q) ⟨w.heap.size + 1 + 1, 7, none⟩ (.int .i64 x7)
  replace fp := fun q => frozen_set (fp q) ⟨w.heap.size + 1 + 1, 7, none⟩ (.int .i64 x7)
  replace o4 := o4.set ⟨w.heap.size + 1 + 1, 7, none⟩ (.int .i64 x7) (.inl (show w.heap.size + 1 + 1 < _ from by omega))
  replace o5 := o5.set ⟨w.heap.size + 1 + 1, 7, none⟩ (.int .i64 x7) (.inl (show w.heap.size + 1 + 1 < _ from by omega))
  replace M := M.put ⟨w.heap.size + 1 + 1, 7, none⟩ (.int .i64 x7) (show w.heap.size ≤ w.heap.size + 1 + 1 from by omega)
  have zu2 : (((w2.setCell ⟨w.heap.size + 1 + 1, 5, none⟩ (.slice (some ⟨b5, 0, none⟩) n5 n5)).setCell ⟨w.heap.size + 1 + 1, 6, none⟩ (.int .i64 x6)).setCell ⟨w.heap.size + 1 + 1, 7, none⟩ (.int .i64 x7)).heap.size = w2.heap.size := by simp [World.setCell]
  generalize (((w2.setCell ⟨w.heap.size + 1 + 1, 5, none⟩ (.slice (some ⟨b5, 0, none⟩) n5 n5)).setCell ⟨w.heap.size + 1 + 1, 6, none⟩ (.int .i64 x6)).setCell ⟨w.heap.size + 1 + 1, 7, none⟩ (.int .i64 x7)) = u2 at *
  refine (toRevocationS a8 n8 c8 B z8 _ (h8.mk M hB (.inr (Nat.le_refl _))) (Nat.le_trans hB M.size) hn8).mono ?_
  rintro e w3 ⟨b8, rfl, o8, m3⟩
  have zt3 := m3.size
  clear k8
  replace r0 := m3.cellAt r0
  replace r1 := m3.cellAt r1
  replace r2 := m3.cellAt r2
  replace r3 := m3.cellAt r3
  replace r4 := m3.cellAt r4
  replace r5 := m3.cellAt r5
  replace r6 := m3.cellAt r6
  replace r7 := m3.cellAt r7
  replace r8 := m3.cellAt r8
  replace p0 := m3.cellAt p0
  replace p1 := m3.cellAt p1
  replace p2 := m3.cellAt p2
  replace p3 := m3.cellAt p3
  replace p4 := m3.cellAt p4
  replace p5 := m3.cellAt p5
  replace p6 := m3.cellAt p6
  replace p7 := m3.cellAt p7
  replace p8 := m3.cellAt p8
  replace fr := fun q => (m3.frozen (b := w.heap.size + 1) (o := q) (by omega) (.inr (Nat.zero_le _))).trans (fr q)
  replace fp := fun q => (m3.frozen (b := w.heap.size + 1 + 1) (o := q) (by omega) (.inr (Nat.zero_le _))).trans (fp q)
  replace o4 := o4.mk m3 (by omega) (.inr (.inr (Nat.le_refl _)))
  replace o5 := o5.mk m3 (by omega) (.inr (.inr (Nat.le_refl _)))
  replace M := M.trans m3
  clear m3
  go_wp2_with fail
  replace p0 := cell_set p0 ⟨w.heap.size + 1 + 1, 8, none⟩ (.slice (some ⟨b8, 0, none⟩) n8 n8) (.inr (by simp))
  replace p1 := cell_set p1 ⟨w.heap.size + 1 + 1, 8, none⟩ (.slice (some ⟨b8, 0, none⟩) n8 n8) (.inr (by simp))
  replace p2 := cell_set p2 ⟨w.heap.size + 1 + 1, 8, none⟩ (.slice (some ⟨b8, 0, none⟩) n8 n8) (.inr (by simp))
  replace p3 := cell_set p3 ⟨w.heap.size + 1 + 1, 8, none⟩ (.slice (some ⟨b8, 0, none⟩) n8 n8) (.inr (by simp))
  replace p4 := cell_set p4 ⟨w.heap.size + 1 + 1, 8, none⟩ (.slice (some ⟨b8, 0, none⟩) n8 n8) (.inr (by simp))
  replace p5 := cell_set p5 ⟨w.heap.size + 1 + 1, 8, none⟩ (.slice (some ⟨b8, 0, none⟩) n8 n8) (.inr (by simp))
  replace p6 := cell_set p6 ⟨w.heap.size + 1 + 1, 8, none⟩ (.slice (some ⟨b8, 0, none⟩) n8 n8) (.inr (by simp))
  replace p7 := cell_set p7 ⟨w.heap.size + 1 + 1, 8, none⟩ (.slice (some ⟨b8, 0, none⟩) n8 n8) (.inr (by simp))
  replace p8 := World.cell?_setCell_same _ _ (.slice (some ⟨b8, 0, none⟩) n8 n8) p8
  replace r0 := cell_set r0 ⟨w.heap.size + 1 + 1, 8, none⟩ (.slice (some ⟨b8, 0, none⟩) n8 n8) (.inl (show w.heap.size + 1 + 1 ≠ w.heap.size + 1 from by omega))
  replace r1 := cell_set r1 ⟨w.heap.size + 1 + 1, 8, none⟩ (.slice (some ⟨b8, 0, none⟩) n8 n8) (.inl (show w.heap.size + 1 + 1 ≠ w.heap.size + 1 from by omega))
  replace r2 := cell_set r2 ⟨w.heap.size + 1 + 1, 8, none⟩ (.slice (some ⟨b8, 0, none⟩) n8 n8) (.inl (show w.heap.size + 1 + 1 ≠ w.heap.size + 1 from by omega))
  replace r3 := cell_set r3 ⟨w.heap.size + 1 + 1, 8, none⟩ (.slice (some ⟨b8, 0, none⟩) n8 n8) (.inl (show w.heap.size + 1 + 1 ≠ w.heap.size + 1 from by omega))
  replace r4 := cell_set r4 ⟨w.heap.size + 1 + 1, 8, none⟩ (.slice (some ⟨b8, 0, none⟩) n8 n8) (.inl (show w.heap.size + 1 + 1 ≠ w.heap.size + 1 from by omega))
  replace r5 := cell_set r5 ⟨w.heap.size + 1 + 1, 8, none⟩ (.slice (some ⟨b8, 0, none⟩) n8 n8) (.inl (show w.heap.size + 1 + 1 ≠ w.heap.size + 1 from by omega))
  replace r6 := cell_set r6 ⟨w.heap.size + 1 + 1, 8, none⟩ (.slice (some ⟨b8, 0, none⟩) n8 n8) (.inl (show w.heap.size + 1 + 1 ≠ w.heap.size + 1 from by omega))
  replace r7 := cell_set r7 ⟨w.heap.size + 1 + 1, 8, none⟩ (.slice (some ⟨b8, 0, none⟩) n8 n8) (.inl (show w.heap.size + 1 + 1 ≠ w.heap.size + 1 from by omega))
  replace r8 := cell_set r8 ⟨w.heap.size + 1 + 1, 8, none⟩ (.slice (some ⟨b8, 0, none⟩) n8 n8) (.inl (show w.heap.size + 1 + 1 ≠ w.heap.size + 1 from by omega))
  replace fr := fun q => frozen_set (fr q) ⟨w.heap.size + 1 + 1, 8, none⟩ (.slice (some ⟨b8, 0, none⟩) n8 n8)
  replace fp := fun q => frozen_set (fp q) ⟨w.heap.size + 1 + 1, 8, none⟩ (.slice (some ⟨b8, 0, none⟩) n8 n8)
  replace o4 := o4.set ⟨w.heap.size + 1 + 1, 8, none⟩ (.slice (some ⟨b8, 0, none⟩) n8 n8) (.inl (show w.heap.size + 1 + 1 < _ from by omega))
  replace o5 := o5.set ⟨w.heap.size + 1 + 1, 8, none⟩ (.slice (some ⟨b8, 0, none⟩) n8 n8) (.inl (show w.heap.size + 1 + 1 < _ from by omega))
  replace o8 := o8.set ⟨w.heap.size + 1 + 1, 8, none⟩ (.slice (some ⟨b8, 0, none⟩) n8 n8) (.inl (show w.heap.size + 1 + 1 < _ from by omega))
  replace M := M.put ⟨w.heap.size + 1 + 1, 8, none⟩ (.slice (some ⟨b8, 0, none⟩) n8 n8) (show w.heap.size ≤ w.heap.size + 1 + 1 from by omega)
  replace r0 := World.cell?_setCell_same _ _ (.int .i64 x0) r0
  replace r1 := cell_set r1 ⟨w.heap.size + 1, 0, none⟩ (.int .i64 x0) (.inr (by simp))
  replace r2 := cell_set r2 ⟨w.heap.size + 1, 0, none⟩ (.int .i64 x0) (.inr (by simp))
  replace r3 := cell_set r3 ⟨w.heap.size + 1, 0, none⟩ (.int .i64 x0) (.inr (by simp))
  replace r4 := cell_set r4 ⟨w.heap.size + 1, 0, none⟩ (.int .i64 x0) (.inr (by simp))
  replace r5 := cell_set r5 ⟨w.heap.size + 1, 0, none⟩ (.int .i64 x0) (.inr (by simp))
  replace r6 := cell_set r6 ⟨w.heap.size + 1, 0, none⟩ (.int .i64 x0) (.inr (by simp))
  replace r7 := cell_set r7 ⟨w.heap.size + 1, 0, none⟩ (.int .i64 x0) (.inr (by simp))
  replace r8 := cell_set r8 ⟨w.heap.size + 1, 0, none⟩ (.int .i64 x0) (.inr (by simp))
  replace o4 := o4.set ⟨w.heap.size + 1, 0, none⟩ (.int .i64 x0) (.inl (show w.heap.size + 1 < _ from by omega))
  replace o5 := o5.set ⟨w.heap.size + 1, 0, none⟩ (.int .i64 x0) (.inl (show w.heap.size + 1 < _ from by omega))
  replace o8 := o8.set ⟨w.heap.size + 1, 0, none⟩ (.int .i64 x0) (.inl (show w.heap.size + 1 < _ from by omega))
  replace M := M.put ⟨w.heap.size + 1, 0, none⟩ (.int .i64 x0) (show w.heap.size ≤ w.heap.size + 1 from by omega)
  replace r0 := cell_set r0 ⟨w.heap.size + 1, 1, none⟩ (.int .i64 x1) (.inr (by simp))
  replace r1 := World.cell?_setCell_same _ _ (.int .i64 x1) r1
  replace r2 := cell_set r2 ⟨w.heap.size + 1, 1, none⟩ (.int .i64 x1) (.inr (by simp))
  replace r3 := cell_set r3 ⟨w.heap.size + 1, 1, none⟩ (.int .i64 x1) (.inr (by simp))
  replace r4 := cell_set r4 ⟨w.heap.size + 1, 1, none⟩ (.int .i64 x1) (.inr (by simp))
  replace r5 := cell_set r5 ⟨w.heap.size + 1, 1, none⟩ (.int .i64 x1) (.inr (by simp))
  replace r6 := cell_set r6 ⟨w.heap.size + 1, 1, none⟩ (.int .i64 x1) (.inr (by simp))
  replace r7 := cell_set r7 ⟨w.heap.size + 1, 1, none⟩ (.int .i64 x1) (.inr (by simp))
  replace r8 := cell_set r8 ⟨w.heap.size + 1, 1, none⟩ (.int .i64 x1) (.inr (by simp))
  replace o4 := o4.set ⟨w.heap.size + 1, 1, none⟩ (.int .i64 x1) (.inl (show w.heap.size + 1 < _ from by omega))
  replace o5 := o5.set ⟨w.heap.size + 1, 1, none⟩ (.int .i64 x1) (.inl (show w.heap.size + 1 < _ from by omega))
  replace o8 := o8.set ⟨w.heap.size + 1, 1, none⟩ (.int .i64 x1) (.inl (show w.heap.size + 1 < _ from by omega))
  replace M := M.put ⟨w.heap.size + 1, 1, none⟩ (.int .i64 x1) (show w.heap.size ≤ w.heap.size + 1 from by omega)
  replace r0 := cell_set r0 ⟨w.heap.size + 1, 2, none⟩ (.int .i64 x2) (.inr (by simp))
  replace r1 := cell_set r1 ⟨w.heap.size + 1, 2, none⟩ (.int .i64 x2) (.inr (by simp))
  replace r2 := World.cell?_setCell_same _ _ (.int .i64 x2) r2
  replace r3 := cell_set r3 ⟨w.heap.size + 1, 2, none⟩ (.int .i64 x2) (.inr (by simp))
  replace r4 := cell_set r4 ⟨w.heap.size + 1, 2, none⟩ (.int .i64 x2) (.inr (by simp))
  replace r5 := cell_set r5 ⟨w.heap.size + 1, 2, none⟩ (.int .i64 x2) (.inr (by simp))
  replace r6 := cell_set r6 ⟨w.heap.size + 1, 2, none⟩ (.int .i64 x2) (.inr (by simp))
  replace r7 := cell_set r7 ⟨w.heap.size + 1, 2, none⟩ (.int .i64 x2) (.inr (by simp))
  replace r8 := cell_set r8 ⟨w.heap.size + 1, 2, none⟩ (.int .i64 x2) (.inr (by simp))
  replace o4 := o4.set ⟨w.heap.size + 1, 2, none⟩ (.int .i64 x2) (.inl (show w.heap.size + 1 < _ from by omega))
  replace o5 := o5.set ⟨w.heap.size + 1, 2, none⟩ (.int .i64 x2) (.inl (show w.heap.size + 1 < _ from by omega))
  replace o8 := o8.set ⟨w.heap.size + 1, 2, none⟩ (.int .i64 x2) (.inl (show w.heap.size + 1 < _ from by omega))
  replace M := M.put ⟨w.heap.size + 1, 2, none⟩ (.int .i64 x2) (show w.heap.size ≤ w.heap.size + 1 from by omega)
  replace r0 := cell_set r0 ⟨w.heap.size + 1, 3, none⟩ (.int .i64 x3) (.inr (by simp))
  replace r1 := cell_set r1 ⟨w.heap.size + 1, 3, none⟩ (.int .i64 x3) (.inr (by simp))
  replace r2 := cell_set r2 ⟨w.heap.size + 1, 3, none⟩ (.int .i64 x3) (.inr (by simp))
  replace r3 := World.cell?_setCell_same _ _ (.int .i64 x3) r3
  replace r4 := cell_set r4 ⟨w.heap.size + 1, 3, none⟩ (.int .i64 x3) (.inr (by simp))
  replace r5 := cell_set r5 ⟨w.heap.size + 1, 3, none⟩ (.int .i64 x3) (.inr (by simp))
  replace r6 := cell_set r6 ⟨w.heap.size + 1, 3, none⟩ (.int .i64 x3) (.inr (by simp))
  replace r7 := cell_set r7 ⟨w.heap.size + 1, 3, none⟩ (.int .i64 x3) (.inr (by simp))
  replace r8 := cell_set r8 ⟨w.heap.size + 1, 3, none⟩ (.int .i64 x3) (.inr (by simp))
  replace o4 := o4.set ⟨w.heap.size + 1, 3, none⟩ (.int .i64 x3) (.inl (show w.heap.size + 1 < _ from by omega))
  replace o5 := o5.set ⟨w.heap.size + 1, 3, none⟩ (.int .i64 x3) (.inl (show w.heap.size + 1 < _ from by omega))
  replace o8 := o8.set ⟨w.heap.size + 1, 3, none⟩ (.int .i64 x3) (.inl (show w.heap.size + 1 < _ from by omega))
  replace M := M.put ⟨w.heap.size + 1, 3, none⟩ (.int .i64 x3) (show w.heap.size ≤ w.heap.size + 1 from by omega)
  replace r0 := cell_set r0 ⟨w.heap.size + 1, 4, none⟩ (.slice (some ⟨b4, 0, none⟩) n4 n4) (.inr (by simp))
  replace r1 := cell_set r1 ⟨w.heap.size + 1, 4, none⟩ (.slice (some ⟨b4, 0, none⟩) n4 n4) (.inr (by simp))
  replace r2 := cell_set r2 ⟨w.heap.size + 1, 4, none⟩ (.slice (some ⟨b4, 0, none⟩) n4 n4) (.inr (by simp))
  replace r3 := cell_set r3 ⟨w.heap.size + 1, 4, none⟩ (.slice (some ⟨b4, 0, none⟩) n4 n4) (.inr (by simp))
  replace r4 := World.cell?_setCell_same _ _ (.slice (some ⟨b4, 0, none⟩) n4 n4) r4
  replace r5 := cell_set r5 ⟨w.heap.size + 1, 4, none⟩ (.slice (some ⟨b4, 0, none⟩) n4 n4) (.inr (by simp))
  replace r6 := cell_set r6 ⟨w.heap.size + 1, 4, none⟩ (.slice (some ⟨b4, 0, none⟩) n4 n4) (.inr (by simp))
  replace r7 := cell_set r7 ⟨w.heap.size + 1, 4, none⟩ (.slice (some ⟨b4, 0, none⟩) n4 n4) (.inr (by simp))
  replace r8 := cell_set r8 ⟨w.heap.size + 1, 4, none⟩ (.slice (some ⟨b4, 0, none⟩) n4 n4) (.inr (by simp))
  replace o4 := o4.set ⟨w.heap.size + 1, 4, none⟩ (.slice (some ⟨b4, 0, none⟩) n4 n4) (.inl (show w.heap.size + 1 < _ from by omega))
  replace o5 := o5.set ⟨w.heap.size + 1, 4, none⟩ (.slice (some ⟨b4, 0, none⟩) n4 n4) (.inl (show w.heap.size + 1 < _ from by omega))
  replace o8 := o8.set ⟨w.heap.size + 1, 4, none⟩ (.slice (some ⟨b4, 0, none⟩) n4 n4) (.inl (show w.heap.size + 1 < _ from by omega))
  replace M := M.put ⟨w.heap.size + 1, 4, none⟩ (.slice (some ⟨b4, 0, none⟩) n4 n4) (show w.heap.size ≤ w.heap.size + 1 from by omega)
  replace r0 := cell_set r0 ⟨w.heap.size + 1, 5, none⟩ (.slice (some ⟨b5, 0, none⟩) n5 n5) (.inr (by simp))
  replace r1 := cell_set r1 ⟨w.heap.size + 1, 5, none⟩ (.slice (some ⟨b5, 0, none⟩) n5 n5) (.inr (by simp))
  replace r2 := cell_set r2 ⟨w.heap.size + 1, 5, none⟩ (.slice (some ⟨b5, 0, none⟩) n5 n5) (.inr (by simp))
  replace r3 := cell_set r3 ⟨w.heap.size + 1, 5, none⟩ (.slice (some ⟨b5, 0, none⟩) n5 n5) (.inr (by simp))
  replace r4 := cell_set r4 ⟨w.heap.size + 1, 5, none⟩ (.slice (some ⟨b5, 0, none⟩) n5 n5) (.inr (by simp))
  replace r5 := World.cell?_setCell_same _ _ (.slice (some ⟨b5, 0, none⟩) n5 n5) r5
  replace r6 := cell_set r6 ⟨w.heap.size + 1, 5, none⟩ (.slice (some ⟨b5, 0, none⟩) n5 n5) (.inr (by simp))
  replace r7 := cell_set r7 ⟨w.heap.size + 1, 5, none⟩ (.slice (some ⟨b5, 0, none⟩) n5 n5) (.inr (by simp))
  replace r8 := cell_set r8 ⟨w.heap.size + 1, 5, none⟩ (.slice (some ⟨b5, 0, none⟩) n5 n5) (.inr (by simp))
  replace o4 := o4.set ⟨w.heap.size + 1, 5, none⟩ (.slice (some ⟨b5, 0, none⟩) n5 n5) (.inl (show w.heap.size + 1 < _ from by omega))
  replace o5 := o5.set ⟨w.heap.size + 1, 5, none⟩ (.slice (some ⟨b5, 0, none⟩) n5 n5) (.inl (show w.heap.size + 1 < _ from by omega))
  replace o8 := o8.set ⟨w.heap.size + 1, 5, none⟩ (.slice (some ⟨b5, 0, none⟩) n5 n5) (.inl (show w.heap.size + 1 < _ from by omega))
  replace M := M.put ⟨w.heap.size + 1, 5, none⟩ (.slice (some ⟨b5, 0, none⟩) n5 n5) (show w.heap.size ≤ w.heap.size + 1 from by omega)
  replace r0 := cell_set r0 ⟨w.heap.size + 1, 6, none⟩ (.int .i64 x6) (.inr (by simp))
  replace r1 := cell_set r1 ⟨w.heap.size + 1, 6, none⟩ (.int .i64 x6) (.inr (by simp))
  replace r2 := cell_set r2 ⟨w.heap.size + 1, 6, none⟩ (.int .i64 x6) (.inr (by simp))
  replace r3 := cell_set r3 ⟨w.heap.size + 1, 6, none⟩ (.int .i64 x6) (.inr (by simp))
  replace r4 := cell_set r4 ⟨w.heap.size + 1, 6, none⟩ (.int .i64 x6) (.inr (by simp))
  replace r5 := cell_set r5 ⟨w.heap.size + 1, 6, none⟩ (.int .i64 x6) (.inr (by simp))
  replace r6 := World.cell?_setCell_same _ _ (.int .i64 x6) r6
  replace r7 := cell_set r7 ⟨w.heap.size + 1, 6, none⟩ (.int .i64 x6) (.inr (by simp))
  replace r8 := cell_set r8 ⟨w.heap.size + 1, 6, none⟩ (.int .i64 x6) (.inr (by simp))
  replace o4 := o4.set ⟨w.heap.size + 1, 6, none⟩ (.int .i64 x6) (.inl (show w.heap.size + 1 < _ from by omega))
  replace o5 := o5.set ⟨w.heap.size + 1, 6, none⟩ (.int .i64 x6) (.inl (show w.heap.size + 1 < _ from by omega))
  replace o8 := o8.set ⟨w.heap.size + 1, 6, none⟩ (.int .i64 x6) (.inl (show w.heap.size + 1 < _ from by omega))
  replace M := M.put ⟨w.heap.size + 1, 6, none⟩ (.int .i64 x6) (show w.heap.size ≤ w.heap.size + 1 from by omega)
  replace r0 := cell_set r0 ⟨w.heap.size + 1, 7, none⟩ (.int .i64 x7) (.inr (by simp))
  replace r1 := cell_set r1 ⟨w.heap.size + 1, 7, none⟩ (.int .i64 x7) (.inr (by simp))
  replace r2 := cell_set r2 ⟨w.heap.size + 1, 7, none⟩ (.int .i64 x7) (.inr (by simp))
  replace r3 := cell_set r3 ⟨w.heap.size + 1, 7, none⟩ (.int .i64 x7) (.inr (by simp))
  replace r4 := cell_set r4 ⟨w.heap.size + 1, 7, none⟩ (.int .i64 x7) (.inr (by simp))
  replace r5 := cell_set r5 ⟨w.heap.size + 1, 7, none⟩ (.int .i64 x7) (.inr (by simp))
  replace r6 := cell_set r6 ⟨w.heap.size + 1, 7, none⟩ (.int .i64 x7) (.inr (by simp))
  replace r7 := World.cell?_setCell_same _ _ (.int .i64 x7) r7
  replace r8 := cell_set r8 ⟨w.heap.size + 1, 7, none⟩ (.int .i64 x7) (.inr (by simp))
  replace o4 := o4.set ⟨w.heap.size + 1, 7, none⟩ (.int .i64 x7) (.inl (show w.heap.size + 1 < _ from by omega))
  replace o5 := o5.set ⟨w.heap.size + 1, 7, none⟩ (.int .i64 x7) (.inl (show w.heap.size + 1 < _ from by omega))
  replace o8 := o8.set ⟨w.heap.size + 1, 7, none⟩ (.int .i64 x7) (.inl (show w.heap.size + 1 < _ from by omega))
  replace M := M.put ⟨w.heap.size + 1, 7, none⟩ (.int .i64 x7) (show w.heap.size ≤ w.heap.size + 1 from by omega)
  replace r0 := cell_set r0 ⟨w.heap.size + 1, 8, none⟩ (.slice (some ⟨b8, 0, none⟩) n8 n8) (.inr (by simp))
  replace r1 := cell_set r1 ⟨w.heap.size + 1, 8, none⟩ (.slice (some ⟨b8, 0, none⟩) n8 n8) (.inr (by simp))
  replace r2 := cell_set r2 ⟨w.heap.size + 1, 8, none⟩ (.slice (some ⟨b8, 0, none⟩) n8 n8) (.inr (by simp))
  replace r3 := cell_set r3 ⟨w.heap.size + 1, 8, none⟩ (.slice (some ⟨b8, 0, none⟩) n8 n8) (.inr (by simp))
  replace r4 := cell_set r4 ⟨w.heap.size + 1, 8, none⟩ (.slice (some ⟨b8, 0, none⟩) n8 n8) (.inr (by simp))
  replace r5 := cell_set r5 ⟨w.heap.size + 1, 8, none⟩ (.slice (some ⟨b8, 0, none⟩) n8 n8) (.inr (by simp))
  replace r6 := cell_set r6 ⟨w.heap.size + 1, 8, none⟩ (.slice (some ⟨b8, 0, none⟩) n8 n8) (.inr (by simp))
  replace r7 := cell_set r7 ⟨w.heap.size + 1, 8, none⟩ (.slice (some ⟨b8, 0, none⟩) n8 n8) (.inr (by simp))
  replace r8 := World.cell?_setCell_same _ _ (.slice (some ⟨b8, 0, none⟩) n8 n8) r8
  replace o4 := o4.set ⟨w.heap.size + 1, 8, none⟩ (.slice (some ⟨b8, 0, none⟩) n8 n8) (.inl (show w.heap.size + 1 < _ from by omega))
  replace o5 := o5.set ⟨w.heap.size + 1, 8, none⟩ (.slice (some ⟨b8, 0, none⟩) n8 n8) (.inl (show w.heap.size + 1 < _ from by omega))
  replace o8 := o8.set ⟨w.heap.size + 1, 8, none⟩ (.slice (some ⟨b8, 0, none⟩) n8 n8) (.inl (show w.heap.size + 1 < _ from by omega))
  replace M := M.put ⟨w.heap.size + 1, 8, none⟩ (.slice (some ⟨b8, 0, none⟩) n8 n8) (show w.heap.size ≤ w.heap.size + 1 from by omega)
  clear p0 p1 p2 p3 p4 p5 p6 p7 p8 fr fp
  have zF : ((((((((((w3.setCell ⟨w.heap.size + 1 + 1, 8, none⟩ (.slice (some ⟨b8, 0, none⟩) n8 n8)).setCell ⟨w.heap.size + 1, 0, none⟩ (.int .i64 x0)).setCell ⟨w.heap.size + 1, 1, none⟩ (.int .i64 x1)).setCell ⟨w.heap.size + 1, 2, none⟩ (.int .i64 x2)).setCell ⟨w.heap.size + 1, 3, none⟩ (.int .i64 x3)).setCell ⟨w.heap.size + 1, 4, none⟩ (.slice (some ⟨b4, 0, none⟩) n4 n4)).setCell ⟨w.heap.size + 1, 5, none⟩ (.slice (some ⟨b5, 0, none⟩) n5 n5)).setCell ⟨w.heap.size + 1, 6, none⟩ (.int .i64 x6)).setCell ⟨w.heap.size + 1, 7, none⟩ (.int .i64 x7)).setCell ⟨w.heap.size + 1, 8, none⟩ (.slice (some ⟨b8, 0, none⟩) n8 n8)).heap.size = w3.heap.size := by simp [World.setCell]
  generalize ((((((((((w3.setCell ⟨w.heap.size + 1 + 1, 8, none⟩ (.slice (some ⟨b8, 0, none⟩) n8 n8)).setCell ⟨w.heap.size + 1, 0, none⟩ (.int .i64 x0)).setCell ⟨w.heap.size + 1, 1, none⟩ (.int .i64 x1)).setCell ⟨w.heap.size + 1, 2, none⟩ (.int .i64 x2)).setCell ⟨w.heap.size + 1, 3, none⟩ (.int .i64 x3)).setCell ⟨w.heap.size + 1, 4, none⟩ (.slice (some ⟨b4, 0, none⟩) n4 n4)).setCell ⟨w.heap.size + 1, 5, none⟩ (.slice (some ⟨b5, 0, none⟩) n5 n5)).setCell ⟨w.heap.size + 1, 6, none⟩ (.int .i64 x6)).setCell ⟨w.heap.size + 1, 7, none⟩ (.int .i64 x7)).setCell ⟨w.heap.size + 1, 8, none⟩ (.slice (some ⟨b8, 0, none⟩) n8 n8)) = WF at *
  refine bodyPost_ret (v := .agg #[.int .i64 x0, .int .i64 x1, .int .i64 x2, .int .i64 x3, .slice (some ⟨b4, 0, none⟩) n4 n4, .slice (some ⟨b5, 0, none⟩) n5 n5, .int .i64 x6, .int .i64 x7, .slice (some ⟨b8, 0, none⟩) n8 n8]) (by simp [results, Try.results36, go_sem, r0, r1, r2, r3, r4, r5, r6, r7, r8]) rfl ⟨b4, b5, b8, u1.heap.size, u2.heap.size, rfl, ?_, ?_, ?_, ?_, ?_, ?_, M⟩
  · exact o4.wide (by omega) (by omega)
  · exact o5.wide (by omega) (by omega)
  · exact o8.wide (by omega) (by omega)
  · omega
  · omega
  · omega

set_option maxRecDepth 100000 in
set_option maxHeartbeats 4000000 in
theorem eqFlowC (x0 : Int) (x1 : Int) (x2 : Int) (x3 : Int) (x6 : Int) (x7 : Int) (a4 a4' : Option Addr) (n4 c4 c4' : Nat) (z4 : List TMessage) (a5 a5' : Option Addr) (n5 c5 c5' : Nat) (z5 : List TPath) (a8 a8' : Option Addr) (n8 c8 c8' : Nat) (z8 : List TRevocation) (B B' : Nat) (w : World) (h4 : HasMessage w B a4 n4 z4) (h5 : HasPath w B a5 n5 z5) (h8 : HasRevocation w B a8 n8 z8) (h4' : HasMessage w B' a4' n4 z4) (h5' : HasPath w B' a5' n5 z5) (h8' : HasRevocation w B' a8' n8 z8) (hB : B ≤ w.heap.size) (hB' : B' ≤ w.heap.size) (hn4 : szMessage z4 n4 ≤ 1048576) (hn5 : szPath z5 n5 ≤ 1048576) (hn8 : n8 ≤ 1048576) :
    Calls Try.prog 38 #[.agg #[.int .i64 x0, .int .i64 x1, .int .i64 x2, .int .i64 x3, .slice a4 n4 c4, .slice a5 n5 c5, .int .i64 x6, .int .i64 x7, .slice a8 n8 c8], .agg #[.int .i64 x0, .int .i64 x1, .int .i64 x2, .int .i64 x3, .slice a4' n4 c4', .slice a5' n5 c5', .int .i64 x6, .int .i64 x7, .slice a8' n8 c8']] w fun e w' => e = .returned (.bool true) ∧ Mk0 w w' := by
  have M := (Mk.alloc w (Obj.cells #[Value.int .i64 x0, Value.int .i64 x1, Value.int .i64 x2, Value.int .i64 x3, Value.slice a4 n4 c4, Value.slice a5 n5 c5, Value.int .i64 x6, Value.int .i64 x7, Value.slice a8 n8 c8] 83)).new (Obj.cells #[Value.int .i64 x0, Value.int .i64 x1, Value.int .i64 x2, Value.int .i64 x3, Value.slice a4' n4 c4', Value.slice a5' n5 c5', Value.int .i64 x6, Value.int .i64 x7, Value.slice a8' n8 c8'] 83)
  have k4 : ((w.alloc (Obj.cells #[Value.int .i64 x0, Value.int .i64 x1, Value.int .i64 x2, Value.int .i64 x3, Value.slice a4 n4 c4, Value.slice a5 n5 c5, Value.int .i64 x6, Value.int .i64 x7, Value.slice a8 n8 c8] 83)).alloc (Obj.cells #[Value.int .i64 x0, Value.int .i64 x1, Value.int .i64 x2, Value.int .i64 x3, Value.slice a4' n4 c4', Value.slice a5' n5 c5', Value.int .i64 x6, Value.int .i64 x7, Value.slice a8' n8 c8'] 83)).cell? ⟨w.heap.size, 4, none⟩ = some (.slice a4 n4 c4) := by simp [go_sem]
  have k5 : ((w.alloc (Obj.cells #[Value.int .i64 x0, Value.int .i64 x1, Value.int .i64 x2, Value.int .i64 x3, Value.slice a4 n4 c4, Value.slice a5 n5 c5, Value.int .i64 x6, Value.int .i64 x7, Value.slice a8 n8 c8] 83)).alloc (Obj.cells #[Value.int .i64 x0, Value.int .i64 x1, Value.int .i64 x2, Value.int .i64 x3, Value.slice a4' n4 c4', Value.slice a5' n5 c5', Value.int .i64 x6, Value.int .i64 x7, Value.slice a8' n8 c8'] 83)).cell? ⟨w.heap.size, 5, none⟩ = some (.slice a5 n5 c5) := by simp [go_sem]
  have k6 : ((w.alloc (Obj.cells #[Value.int .i64 x0, Value.int .i64 x1, Value.int .i64 x2, Value.int .i64 x3, Value.slice a4 n4 c4, Value.slice a5 n5 c5, Value.int .i64 x6, Value.int .i64 x7, Value.slice a8 n8 c8] 83)).alloc (Obj.cells #[Value.int .i64 x0, Value.int .i64 x1, Value.int .i64 x2, Value.int .i64 x3, Value.slice a4' n4 c4', Value.slice a5' n5 c5', Value.int .i64 x6, Value.int .i64 x7, Value.slice a8' n8 c8'] 83)).cell? ⟨w.heap.size, 6, none⟩ = some (.int .i64 x6) := by simp [go_sem]
  have k7 : ((w.alloc (Obj.cells #[Value.int .i64 x0, Value.int .i64 x1, Value.int .i64 x2, Value.int .i64 x3, Value.slice a4 n4 c4, Value.slice a5 n5 c5, Value.int .i64 x6, Value.int .i64 x7, Value.slice a8 n8 c8] 83)).alloc (Obj.cells #[Value.int .i64 x0, Value.int .i64 x1, Value.int .i64 x2, Value.int .i64 x3, Value.slice a4' n4 c4', Value.slice a5' n5 c5', Value.int .i64 x6, Value.int .i64 x7, Value.slice a8' n8 c8'] 83)).cell? ⟨w.heap.size, 7, none⟩ = some (.int .i64 x7) := by simp [go_sem]
  have k8 : ((w.alloc (Obj.cells #[Value.int .i64 x0, Value.int .i64 x1, Value.int .i64 x2, Value.int .i64 x3, Value.slice a4 n4 c4, Value.slice a5 n5 c5, Value.int .i64 x6, Value.int .i64 x7, Value.slice a8 n8 c8] 83)).alloc (Obj.cells #[Value.int .i64 x0, Value.int .i64 x1, Value.int .i64 x2, Value.int .i64 x3, Value.slice a4' n4 c4', Value.slice a5' n5 c5', Value.int .i64 x6, Value.int .i64 x7, Value.slice a8' n8 c8'] 83)).cell? ⟨w.heap.size, 8, none⟩ = some (.slice a8 n8 c8) := by simp [go_sem]
  have s4 : ((w.alloc (Obj.cells #[Value.int .i64 x0, Value.int .i64 x1, Value.int .i64 x2, Value.int .i64 x3, Value.slice a4 n4 c4, Value.slice a5 n5 c5, Value.int .i64 x6, Value.int .i64 x7, Value.slice a8 n8 c8] 83)).alloc (Obj.cells #[Value.int .i64 x0, Value.int .i64 x1, Value.int .i64 x2, Value.int .i64 x3, Value.slice a4' n4 c4', Value.slice a5' n5 c5', Value.int .i64 x6, Value.int .i64 x7, Value.slice a8' n8 c8'] 83)).cell? ⟨w.heap.size + 1, 4, none⟩ = some (.slice a4' n4 c4') := by simp [go_sem]
  have s5 : ((w.alloc (Obj.cells #[Value.int .i64 x0, Value.int .i64 x1, Value.int .i64 x2, Value.int .i64 x3, Value.slice a4 n4 c4, Value.slice a5 n5 c5, Value.int .i64 x6, Value.int .i64 x7, Value.slice a8 n8 c8] 83)).alloc (Obj.cells #[Value.int .i64 x0, Value.int .i64 x1, Value.int .i64 x2, Value.int .i64 x3, Value.slice a4' n4 c4', Value.slice a5' n5 c5', Value.int .i64 x6, Value.int .i64 x7, Value.slice a8' n8 c8'] 83)).cell? ⟨w.heap.size + 1, 5, none⟩ = some (.slice a5' n5 c5') := by simp [go_sem]
  have s6 : ((w.alloc (Obj.cells #[Value.int .i64 x0, Value.int .i64 x1, Value.int .i64 x2, Value.int .i64 x3, Value.slice a4 n4 c4, Value.slice a5 n5 c5, Value.int .i64 x6, Value.int .i64 x7, Value.slice a8 n8 c8] 83)).alloc (Obj.cells #[Value.int .i64 x0, Value.int .i64 x1, Value.int .i64 x2, Value.int .i64 x3, Value.slice a4' n4 c4', Value.slice a5' n5 c5', Value.int .i64 x6, Value.int .i64 x7, Value.slice a8' n8 c8'] 83)).cell? ⟨w.heap.size + 1, 6, none⟩ = some (.int .i64 x6) := by simp [go_sem]
  have s7 : ((w.alloc (Obj.cells #[Value.int .i64 x0, Value.int .i64 x1, Value.int .i64 x2, Value.int .i64 x3, Value.slice a4 n4 c4, Value.slice a5 n5 c5, Value.int .i64 x6, Value.int .i64 x7, Value.slice a8 n8 c8] 83)).alloc (Obj.cells #[Value.int .i64 x0, Value.int .i64 x1, Value.int .i64 x2, Value.int .i64 x3, Value.slice a4' n4 c4', Value.slice a5' n5 c5', Value.int .i64 x6, Value.int .i64 x7, Value.slice a8' n8 c8'] 83)).cell? ⟨w.heap.size + 1, 7, none⟩ = some (.int .i64 x7) := by simp [go_sem]
  have s8 : ((w.alloc (Obj.cells #[Value.int .i64 x0, Value.int .i64 x1, Value.int .i64 x2, Value.int .i64 x3, Value.slice a4 n4 c4, Value.slice a5 n5 c5, Value.int .i64 x6, Value.int .i64 x7, Value.slice a8 n8 c8] 83)).alloc (Obj.cells #[Value.int .i64 x0, Value.int .i64 x1, Value.int .i64 x2, Value.int .i64 x3, Value.slice a4' n4 c4', Value.slice a5' n5 c5', Value.int .i64 x6, Value.int .i64 x7, Value.slice a8' n8 c8'] 83)).cell? ⟨w.heap.size + 1, 8, none⟩ = some (.slice a8' n8 c8') := by simp [go_sem]
  go_enter Try.func38, Try.ntmps38
  go_wp2_with fail
  generalize ((w.alloc (Obj.cells #[Value.int .i64 x0, Value.int .i64 x1, Value.int .i64 x2, Value.int .i64 x3, Value.slice a4 n4 c4, Value.slice a5 n5 c5, Value.int .i64 x6, Value.int .i64 x7, Value.slice a8 n8 c8] 83)).alloc (Obj.cells #[Value.int .i64 x0, Value.int .i64 x1, Value.int .i64 x2, Value.int .i64 x3, Value.slice a4' n4 c4', Value.slice a5' n5 c5', Value.int .i64 x6, Value.int .i64 x7, Value.slice a8' n8 c8'] 83)) = u0 at *
  refine (eqMessageS a4 a4' n4 c4 c4' B B' z4 _ (h4.mk M hB (.inr (Nat.le_refl _))) (h4'.mk M hB' (.inr (Nat.le_refl _))) (Nat.le_trans hB M.size) (Nat.le_trans hB' M.size) (by omega)).mono ?_
  rintro e w1 ⟨rfl, m1⟩
  replace k5 := m1.cellAt k5
  replace k6 := m1.cellAt k6
  replace k7 := m1.cellAt k7
  replace k8 := m1.cellAt k8
  replace s5 := m1.cellAt s5
  replace s6 := m1.cellAt s6
  replace s7 := m1.cellAt s7
  replace s8 := m1.cellAt s8
  clear k4 s4
  replace M := M.trans m1
  go_wp2_with fail
  refine (eqPathS a5 a5' n5 c5 c5' B B' z5 _ (h5.mk M hB (.inr (Nat.le_refl _))) (h5'.mk M hB' (.inr (Nat.le_refl _))) (Nat.le_trans hB M.size) (Nat.le_trans hB' M.size) (by omega)).mono ?_
  rintro e w2 ⟨rfl, m2⟩
  replace k6 := m2.cellAt k6
  replace k7 := m2.cellAt k7
  replace k8 := m2.cellAt k8
  replace s6 := m2.cellAt s6
  replace s7 := m2.cellAt s7
  replace s8 := m2.cellAt s8
  clear k5 s5
  replace M := M.trans m2
  go_wp2_with fail
  refine (eqRevocationS a8 a8' n8 c8 c8' B B' z8 _ (h8.mk M hB (.inr (Nat.le_refl _))) (h8'.mk M hB' (.inr (Nat.le_refl _))) (Nat.le_trans hB M.size) (Nat.le_trans hB' M.size) (by omega)).mono ?_
  rintro e w3 ⟨rfl, m3⟩
  clear k8 s8
  replace M := M.trans m3
  go_wp2_with fail
  go_ret
  exact ⟨rfl, M⟩

set_option maxRecDepth 100000 in
set_option maxHeartbeats 4000000 in
theorem szFlowC (x0 : Int) (x1 : Int) (x2 : Int) (x3 : Int) (x6 : Int) (x7 : Int) (a4 : Option Addr) (n4 c4 : Nat) (a5 : Option Addr) (n5 c5 : Nat) (a8 : Option Addr) (n8 c8 : Nat) (z4 : List TMessage) (z5 : List TPath) (B : Nat) (l : Int) (w : World) (h4 : HasMessage w B a4 n4 z4) (h5 : HasPath w B a5 n5 z5) (hB : B ≤ w.heap.size) (hq0 : 0 ≤ l) (hq1 : l ≤ 1048576) (hn : (((szMessage z4 n4 : Nat)) : Int) + (((szPath z5 n5 : Nat)) : Int) + (n8 : Int) ≤ l) :
    Calls Try.prog 34 #[.agg #[.int .i64 x0, .int .i64 x1, .int .i64 x2, .int .i64 x3, .slice a4 n4 c4, .slice a5 n5 c5, .int .i64 x6, .int .i64 x7, .slice a8 n8 c8], .int .i64 l] w fun e w' => ∃ l' : Int, l' = ((l - (((szMessage z4 n4 : Nat)) : Int)) - (((szPath z5 n5 : Nat)) : Int)) - (n8 : Int) ∧ e = .returned (.int .i64 l') ∧ Mk0 w w' := by
  have M := Mk.alloc w (Obj.cells #[Value.int .i64 x0, Value.int .i64 x1, Value.int .i64 x2, Value.int .i64 x3, Value.slice a4 n4 c4, Value.slice a5 n5 c5, Value.int .i64 x6, Value.int .i64 x7, Value.slice a8 n8 c8] 77)
  have k4 : (w.alloc (Obj.cells #[Value.int .i64 x0, Value.int .i64 x1, Value.int .i64 x2, Value.int .i64 x3, Value.slice a4 n4 c4, Value.slice a5 n5 c5, Value.int .i64 x6, Value.int .i64 x7, Value.slice a8 n8 c8] 77)).cell? ⟨w.heap.size, 4, none⟩ = some (.slice a4 n4 c4) := by simp [go_sem]
  have k5 : (w.alloc (Obj.cells #[Value.int .i64 x0, Value.int .i64 x1, Value.int .i64 x2, Value.int .i64 x3, Value.slice a4 n4 c4, Value.slice a5 n5 c5, Value.int .i64 x6, Value.int .i64 x7, Value.slice a8 n8 c8] 77)).cell? ⟨w.heap.size, 5, none⟩ = some (.slice a5 n5 c5) := by simp [go_sem]
  have k8 : (w.alloc (Obj.cells #[Value.int .i64 x0, Value.int .i64 x1, Value.int .i64 x2, Value.int .i64 x3, Value.slice a4 n4 c4, Value.slice a5 n5 c5, Value.int .i64 x6, Value.int .i64 x7, Value.slice a8 n8 c8] 77)).cell? ⟨w.heap.size, 8, none⟩ = some (.slice a8 n8 c8) := by simp [go_sem]
  go_enter Try.func34, Try.ntmps34
  go_wp2_with fail
  generalize w.alloc (Obj.cells #[Value.int .i64 x0, Value.int .i64 x1, Value.int .i64 x2, Value.int .i64 x3, Value.slice a4 n4 c4, Value.slice a5 n5 c5, Value.int .i64 x6, Value.int .i64 x7, Value.slice a8 n8 c8] 77) = u0 at *
  refine (szMessageSC a4 n4 c4 B z4 _ _ (h4.mk M hB (.inr (Nat.le_refl _))) (Nat.le_trans hB M.size) (by omega) (by omega) (by omega)).mono ?_
  rintro e w1 ⟨l1, hl1, rfl, m1⟩
  replace k5 := m1.cellAt k5
  replace k8 := m1.cellAt k8
  replace M := M.trans m1
  go_wp2_with fail
  refine (szPathSC a5 n5 c5 B z5 _ _ (h5.mk M hB (.inr (Nat.le_refl _))) (Nat.le_trans hB M.size) (by omega) (by omega) (by omega)).mono ?_
  rintro e w2 ⟨l2, hl2, rfl, m2⟩
  replace k8 := m2.cellAt k8
  replace M := M.trans m2
  go_wp2_with fail
  refine (szRevocationSC a8 n8 c8 _ _ (by omega) (by omega) (by omega)).mono ?_
  rintro e w3 ⟨rfl, rfl⟩
  go_wp2_with fail
  go_ret
  exact ⟨_, by omega, rfl, M⟩

set_option maxRecDepth 100000 in
set_option maxHeartbeats 4000000 in
theorem szFlowB (x0 : Int) (x1 : Int) (x2 : Int) (x3 : Int) (x6 : Int) (x7 : Int) (a4 : Option Addr) (n4 c4 : Nat) (a5 : Option Addr) (n5 c5 : Nat) (a8 : Option Addr) (n8 c8 : Nat) (z4 : List TMessage) (z5 : List TPath) (B : Nat) (l : Int) (w : World) (h4 : HasMessage w B a4 n4 z4) (h5 : HasPath w B a5 n5 z5) (hB : B ≤ w.heap.size) (hq0 : 0 ≤ l) (hq1 : l ≤ 1048576) (hn : l < (((szMessage z4 n4 : Nat)) : Int) + (((szPath z5 n5 : Nat)) : Int) + (n8 : Int)) (hm4 : n4 ≤ 9223372036854775807) (hm5 : n5 ≤ 9223372036854775807) (hm8 : n8 ≤ 9223372036854775807) :
    Calls Try.prog 34 #[.agg #[.int .i64 x0, .int .i64 x1, .int .i64 x2, .int .i64 x3, .slice a4 n4 c4, .slice a5 n5 c5, .int .i64 x6, .int .i64 x7, .slice a8 n8 c8], .int .i64 l] w fun e w' => e = .returned (.int .i64 (-1)) ∧ Mk0 w w' := by
  by_cases hp0 : l < (((szMessage z4 n4 : Nat)) : Int)
  · have M := Mk.alloc w (Obj.cells #[Value.int .i64 x0, Value.int .i64 x1, Value.int .i64 x2, Value.int .i64 x3, Value.slice a4 n4 c4, Value.slice a5 n5 c5, Value.int .i64 x6, Value.int .i64 x7, Value.slice a8 n8 c8] 77)
    have k4 : (w.alloc (Obj.cells #[Value.int .i64 x0, Value.int .i64 x1, Value.int .i64 x2, Value.int .i64 x3, Value.slice a4 n4 c4, Value.slice a5 n5 c5, Value.int .i64 x6, Value.int .i64 x7, Value.slice a8 n8 c8] 77)).cell? ⟨w.heap.size, 4, none⟩ = some (.slice a4 n4 c4) := by simp [go_sem]
    have k5 : (w.alloc (Obj.cells #[Value.int .i64 x0, Value.int .i64 x1, Value.int .i64 x2, Value.int .i64 x3, Value.slice a4 n4 c4, Value.slice a5 n5 c5, Value.int .i64 x6, Value.int .i64 x7, Value.slice a8 n8 c8] 77)).cell? ⟨w.heap.size, 5, none⟩ = some (.slice a5 n5 c5) := by simp [go_sem]
    have k8 : (w.alloc (Obj.cells #[Value.int .i64 x0, Value.int .i64 x1, Value.int .i64 x2, Value.int .i64 x3, Value.slice a4 n4 c4, Value.slice a5 n5 c5, Value.int .i64 x6, Value.int .i64 x7, Value.slice a8 n8 c8] 77)).cell? ⟨w.heap.size, 8, none⟩ = some (.slice a8 n8 c8) := by simp [go_sem]
    go_enter Try.func34, Try.ntmps34
    go_wp2_with fail
    generalize w.alloc (Obj.cells #[Value.int .i64 x0, Value.int .i64 x1, Value.int .i64 x2, Value.int .i64 x3, Value.slice a4 n4 c4, Value.slice a5 n5 c5, Value.int .i64 x6, Value.int .i64 x7, Value.slice a8 n8 c8] 77) = u0 at *
    refine (szMessageSB a4 n4 c4 B z4 _ _ (h4.mk M hB (.inr (Nat.le_refl _))) (Nat.le_trans hB M.size) (by omega) (by omega) (by omega) hm4).mono ?_
    rintro e w1 ⟨rfl, m1⟩
    replace k5 := m1.cellAt k5
    replace k8 := m1.cellAt k8
    replace M := M.trans m1
    go_wp2_with fail
    go_ret
    exact ⟨rfl, M⟩
  by_cases hp1 : l < (((szMessage z4 n4 : Nat)) : Int) + (((szPath z5 n5 : Nat)) : Int)
  · have M := Mk.alloc w (Obj.cells #[Value.int .i64 x0, Value.int .i64 x1, Value.int .i64 x2, Value.int .i64 x3, Value.slice a4 n4 c4, Value.slice a5 n5 c5, Value.int .i64 x6, Value.int .i64 x7, Value.slice a8 n8 c8] 77)
    have k4 : (w.alloc (Obj.cells #[Value.int .i64 x0, Value.int .i64 x1, Value.int .i64 x2, Value.int .i64 x3, Value.slice a4 n4 c4, Value.slice a5 n5 c5, Value.int .i64 x6, Value.int .i64 x7, Value.slice a8 n8 c8] 77)).cell? ⟨w.heap.size, 4, none⟩ = some (.slice a4 n4 c4) := by simp [go_sem]
    have k5 : (w.alloc (Obj.cells #[Value.int .i64 x0, Value.int .i64 x1, Value.int .i64 x2, Value.int .i64 x3, Value.slice a4 n4 c4, Value.slice a5 n5 c5, Value.int .i64 x6, Value.int .i64 x7, Value.slice a8 n8 c8] 77)).cell? ⟨w.heap.size, 5, none⟩ = some (.slice a5 n5 c5) := by simp [go_sem]
    have k8 : (w.alloc (Obj.cells #[Value.int .i64 x0, Value.int .i64 x1, Value.int .i64 x2, Value.int .i64 x3, Value.slice a4 n4 c4, Value.slice a5 n5 c5, Value.int .i64 x6, Value.int .i64 x7, Value.slice a8 n8 c8] 77)).cell? ⟨w.heap.size, 8, none⟩ = some (.slice a8 n8 c8) := by simp [go_sem]
    go_enter Try.func34, Try.ntmps34
    go_wp2_with fail
    generalize w.alloc (Obj.cells #[Value.int .i64 x0, Value.int .i64 x1, Value.int .i64 x2, Value.int .i64 x3, Value.slice a4 n4 c4, Value.slice a5 n5 c5, Value.int .i64 x6, Value.int .i64 x7, Value.slice a8 n8 c8] 77) = u0 at *
    refine (szMessageSC a4 n4 c4 B z4 _ _ (h4.mk M hB (.inr (Nat.le_refl _))) (Nat.le_trans hB M.size) (by omega) (by omega) (by omega)).mono ?_
    rintro e w1 ⟨l1, hl1, rfl, m1⟩
    replace k5 := m1.cellAt k5
    replace k8 := m1.cellAt k8
    replace M := M.trans m1
    go_wp2_with fail
    refine (szPathSB a5 n5 c5 B z5 _ _ (h5.mk M hB (.inr (Nat.le_refl _))) (Nat.le_trans hB M.size) (by omega) (by omega) (by omega) hm5).mono ?_
    rintro e w2 ⟨rfl, m2⟩
    replace k8 := m2.cellAt k8
    replace M := M.trans m2
    go_wp2_with fail
    go_ret
    exact ⟨rfl, M⟩
  have M := Mk.alloc w (Obj.cells #[Value.int .i64 x0, Value.int .i64 x1, Value.int .i64 x2, Value.int .i64 x3, Value.slice a4 n4 c4, Value.slice a5 n5 c5, Value.int .i64 x6, Value.int .i64 x7, Value.slice a8 n8 c8] 77)
  have k4 : (w.alloc (Obj.cells #[Value.int .i64 x0, Value.int .i64 x1, Value.int .i64 x2, Value.int .i64 x3, Value.slice a4 n4 c4, Value.slice a5 n5 c5, Value.int .i64 x6, Value.int .i64 x7, Value.slice a8 n8 c8] 77)).cell? ⟨w.heap.size, 4, none⟩ = some (.slice a4 n4 c4) := by simp [go_sem]
  have k5 : (w.alloc (Obj.cells #[Value.int .i64 x0, Value.int .i64 x1, Value.int .i64 x2, Value.int .i64 x3, Value.slice a4 n4 c4, Value.slice a5 n5 c5, Value.int .i64 x6, Value.int .i64 x7, Value.slice a8 n8 c8] 77)).cell? ⟨w.heap.size, 5, none⟩ = some (.slice a5 n5 c5) := by simp [go_sem]
  have k8 : (w.alloc (Obj.cells #[Value.int .i64 x0, Value.int .i64 x1, Value.int .i64 x2, Value.int .i64 x3, Value.slice a4 n4 c4, Value.slice a5 n5 c5, Value.int .i64 x6, Value.int .i64 x7, Value.slice a8 n8 c8] 77)).cell? ⟨w.heap.size, 8, none⟩ = some (.slice a8 n8 c8) := by simp [go_sem]
  go_enter Try.func34, Try.ntmps34
  go_wp2_with fail
  generalize w.alloc (Obj.cells #[Value.int .i64 x0, Value.int .i64 x1, Value.int .i64 x2, Value.int .i64 x3, Value.slice a4 n4 c4, Value.slice a5 n5 c5, Value.int .i64 x6, Value.int .i64 x7, Value.slice a8 n8 c8] 77) = u0 at *
  refine (szMessageSC a4 n4 c4 B z4 _ _ (h4.mk M hB (.inr (Nat.le_refl _))) (Nat.le_trans hB M.size) (by omega) (by omega) (by omega)).mono ?_
  rintro e w1 ⟨l1, hl1, rfl, m1⟩
  replace k5 := m1.cellAt k5
  replace k8 := m1.cellAt k8
  replace M := M.trans m1
  go_wp2_with fail
  refine (szPathSC a5 n5 c5 B z5 _ _ (h5.mk M hB (.inr (Nat.le_refl _))) (Nat.le_trans hB M.size) (by omega) (by omega) (by omega)).mono ?_
  rintro e w2 ⟨l2, hl2, rfl, m2⟩
  replace k8 := m2.cellAt k8
  replace M := M.trans m2
  go_wp2_with fail
  refine (szRevocationSB a8 n8 c8 _ _ (by omega) (by omega) (by omega) hm8).mono ?_
  rintro e w3 ⟨rfl, rfl⟩
  go_wp2_with fail
  go_ret
  exact ⟨rfl, M⟩

end Go.Proofs.Ytkmofhpipcodbaa
