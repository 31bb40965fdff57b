
/- Verdict by value: the laws' copy, equality and size. -/
import Derived.Test.YtbjfcjjfhnjaiaaCPacket
import Derived.Deep.CutRange
import Derived.Deep.RegionHeld3
import Derived.BigQuiet
import Derived.Deep.QuietTactic
namespace Go.Proofs.Ytbjfcjjfhnjaiaa
open Go.ChangeShapes Go.WideShapes Go.ChangeAt Go.RowKit
set_option linter.unusedVariables false

set_option maxRecDepth 100000 in
set_option maxHeartbeats 4000000 in
theorem toVerdictC (x0 : Int) (x1 : Int) (x2 : Int) (x3 : Int) (x4 : Int) (x6 : Int) (x7 : Int) (x8 : Int) (x9 : Int) (x10 : Int) (a5 : Option Addr) (n5 c5 : Nat) (z5 : List TPathPart) (a11 : Option Addr) (n11 c11 : Nat) (z11 : List TByte) (B : Nat) (w : World) (h5 : HasPathPart w B a5 n5 z5) (h11 : HasByte w B a11 n11 z11) (hB : B ≤ w.heap.size) (hn5 : szPathPart z5 n5 ≤ 1048576) (hn11 : n11 ≤ 1048576) :
    Calls Try.prog 34 #[.agg #[.int .i64 x0, .int .i64 x1, .int .i64 x2, .int .i64 x3, .int .i64 x4, .slice a5 n5 c5, .int .i64 x6, .int .i64 x7, .int .i64 x8, .int .i64 x9, .int .i64 x10, .slice a11 n11 c11]] w fun e w' => ∃ b5 b11 m5, e = .returned (.agg #[.int .i64 x0, .int .i64 x1, .int .i64 x2, .int .i64 x3, .int .i64 x4, .slice (some ⟨b5, 0, none⟩) n5 n5, .int .i64 x6, .int .i64 x7, .int .i64 x8, .int .i64 x9, .int .i64 x10, .slice (some ⟨b11, 0, none⟩) n11 n11]) ∧ OwnPathPart w' w.heap.size m5 (some ⟨b5, 0, none⟩) n5 z5 ∧ OwnByte w' m5 w'.heap.size (some ⟨b11, 0, none⟩) n11 z11 ∧ w.heap.size ≤ m5 ∧ m5 ≤ w'.heap.size ∧ Mk0 w w' := by
  have M := ((Mk.alloc w (Obj.cells #[Value.int .i64 x0, Value.int .i64 x1, Value.int .i64 x2, Value.int .i64 x3, Value.int .i64 x4, Value.slice a5 n5 c5, Value.int .i64 x6, Value.int .i64 x7, Value.int .i64 x8, Value.int .i64 x9, Value.int .i64 x10, Value.slice a11 n11 c11] 49)).new (Obj.cells #[Value.int .i64 0, Value.int .i64 0, Value.int .i64 0, Value.int .i64 0, Value.int .i64 0, Value.slice none 0 0, Value.int .i64 0, Value.int .i64 0, Value.int .i64 0, Value.int .i64 0, Value.int .i64 0, Value.slice none 0 0] 53)).new (Obj.cells #[Value.int .i64 x0, Value.int .i64 x1, Value.int .i64 0, Value.int .i64 0, Value.int .i64 0, Value.slice none 0 0, Value.int .i64 0, Value.int .i64 0, Value.int .i64 0, Value.int .i64 0, Value.int .i64 0, Value.slice none 0 0] 53)
  have k2 : (((w.alloc (Obj.cells #[Value.int .i64 x0, Value.int .i64 x1, Value.int .i64 x2, Value.int .i64 x3, Value.int .i64 x4, Value.slice a5 n5 c5, Value.int .i64 x6, Value.int .i64 x7, Value.int .i64 x8, Value.int .i64 x9, Value.int .i64 x10, Value.slice a11 n11 c11] 49)).alloc (Obj.cells #[Value.int .i64 0, Value.int .i64 0, Value.int .i64 0, Value.int .i64 0, Value.int .i64 0, Value.slice none 0 0, Value.int .i64 0, Value.int .i64 0, Value.int .i64 0, Value.int .i64 0, Value.int .i64 0, Value.slice none 0 0] 53)).alloc (Obj.cells #[Value.int .i64 x0, Value.int .i64 x1, Value.int .i64 0, Value.int .i64 0, Value.int .i64 0, Value.slice none 0 0, Value.int .i64 0, Value.int .i64 0, Value.int .i64 0, Value.int .i64 0, Value.int .i64 0, Value.slice none 0 0] 53)).cell? ⟨w.heap.size, 2, none⟩ = some (.int .i64 x2) := by simp [go_sem]
  have k3 : (((w.alloc (Obj.cells #[Value.int .i64 x0, Value.int .i64 x1, Value.int .i64 x2, Value.int .i64 x3, Value.int .i64 x4, Value.slice a5 n5 c5, Value.int .i64 x6, Value.int .i64 x7, Value.int .i64 x8, Value.int .i64 x9, Value.int .i64 x10, Value.slice a11 n11 c11] 49)).alloc (Obj.cells #[Value.int .i64 0, Value.int .i64 0, Value.int .i64 0, Value.int .i64 0, Value.int .i64 0, Value.slice none 0 0, Value.int .i64 0, Value.int .i64 0, Value.int .i64 0, Value.int .i64 0, Value.int .i64 0, Value.slice none 0 0] 53)).alloc (Obj.cells #[Value.int .i64 x0, Value.int .i64 x1, Value.int .i64 0, Value.int .i64 0, Value.int .i64 0, Value.slice none 0 0, Value.int .i64 0, Value.int .i64 0, Value.int .i64 0, Value.int .i64 0, Value.int .i64 0, Value.slice none 0 0] 53)).cell? ⟨w.heap.size, 3, none⟩ = some (.int .i64 x3) := by simp [go_sem]
  have k4 : (((w.alloc (Obj.cells #[Value.int .i64 x0, Value.int .i64 x1, Value.int .i64 x2, Value.int .i64 x3, Value.int .i64 x4, Value.slice a5 n5 c5, Value.int .i64 x6, Value.int .i64 x7, Value.int .i64 x8, Value.int .i64 x9, Value.int .i64 x10, Value.slice a11 n11 c11] 49)).alloc (Obj.cells #[Value.int .i64 0, Value.int .i64 0, Value.int .i64 0, Value.int .i64 0, Value.int .i64 0, Value.slice none 0 0, Value.int .i64 0, Value.int .i64 0, Value.int .i64 0, Value.int .i64 0, Value.int .i64 0, Value.slice none 0 0] 53)).alloc (Obj.cells #[Value.int .i64 x0, Value.int .i64 x1, Value.int .i64 0, Value.int .i64 0, Value.int .i64 0, Value.slice none 0 0, Value.int .i64 0, Value.int .i64 0, Value.int .i64 0, Value.int .i64 0, Value.int .i64 0, Value.slice none 0 0] 53)).cell? ⟨w.heap.size, 4, none⟩ = some (.int .i64 x4) := by simp [go_sem]
  have k5 : (((w.alloc (Obj.cells #[Value.int .i64 x0, Value.int .i64 x1, Value.int .i64 x2, Value.int .i64 x3, Value.int .i64 x4, Value.slice a5 n5 c5, Value.int .i64 x6, Value.int .i64 x7, Value.int .i64 x8, Value.int .i64 x9, Value.int .i64 x10, Value.slice a11 n11 c11] 49)).alloc (Obj.cells #[Value.int .i64 0, Value.int .i64 0, Value.int .i64 0, Value.int .i64 0, Value.int .i64 0, Value.slice none 0 0, Value.int .i64 0, Value.int .i64 0, Value.int .i64 0, Value.int .i64 0, Value.int .i64 0, Value.slice none 0 0] 53)).alloc (Obj.cells #[Value.int .i64 x0, Value.int .i64 x1, Value.int .i64 0, Value.int .i64 0, Value.int .i64 0, Value.slice none 0 0, Value.int .i64 0, Value.int .i64 0, Value.int .i64 0, Value.int .i64 0, Value.int .i64 0, Value.slice none 0 0] 53)).cell? ⟨w.heap.size, 5, none⟩ = some (.slice a5 n5 c5) := by simp [go_sem]
  have k6 : (((w.alloc (Obj.cells #[Value.int .i64 x0, Value.int .i64 x1, Value.int .i64 x2, Value.int .i64 x3, Value.int .i64 x4, Value.slice a5 n5 c5, Value.int .i64 x6, Value.int .i64 x7, Value.int .i64 x8, Value.int .i64 x9, Value.int .i64 x10, Value.slice a11 n11 c11] 49)).alloc (Obj.cells #[Value.int .i64 0, Value.int .i64 0, Value.int .i64 0, Value.int .i64 0, Value.int .i64 0, Value.slice none 0 0, Value.int .i64 0, Value.int .i64 0, Value.int .i64 0, Value.int .i64 0, Value.int .i64 0, Value.slice none 0 0] 53)).alloc (Obj.cells #[Value.int .i64 x0, Value.int .i64 x1, Value.int .i64 0, Value.int .i64 0, Value.int .i64 0, Value.slice none 0 0, Value.int .i64 0, Value.int .i64 0, Value.int .i64 0, Value.int .i64 0, Value.int .i64 0, Value.slice none 0 0] 53)).cell? ⟨w.heap.size, 6, none⟩ = some (.int .i64 x6) := by simp [go_sem]
  have k7 : (((w.alloc (Obj.cells #[Value.int .i64 x0, Value.int .i64 x1, Value.int .i64 x2, Value.int .i64 x3, Value.int .i64 x4, Value.slice a5 n5 c5, Value.int .i64 x6, Value.int .i64 x7, Value.int .i64 x8, Value.int .i64 x9, Value.int .i64 x10, Value.slice a11 n11 c11] 49)).alloc (Obj.cells #[Value.int .i64 0, Value.int .i64 0, Value.int .i64 0, Value.int .i64 0, Value.int .i64 0, Value.slice none 0 0, Value.int .i64 0, Value.int .i64 0, Value.int .i64 0, Value.int .i64 0, Value.int .i64 0, Value.slice none 0 0] 53)).alloc (Obj.cells #[Value.int .i64 x0, Value.int .i64 x1, Value.int .i64 0, Value.int .i64 0, Value.int .i64 0, Value.slice none 0 0, Value.int .i64 0, Value.int .i64 0, Value.int .i64 0, Value.int .i64 0, Value.int .i64 0, Value.slice none 0 0] 53)).cell? ⟨w.heap.size, 7, none⟩ = some (.int .i64 x7) := by simp [go_sem]
  have k8 : (((w.alloc (Obj.cells #[Value.int .i64 x0, Value.int .i64 x1, Value.int .i64 x2, Value.int .i64 x3, Value.int .i64 x4, Value.slice a5 n5 c5, Value.int .i64 x6, Value.int .i64 x7, Value.int .i64 x8, Value.int .i64 x9, Value.int .i64 x10, Value.slice a11 n11 c11] 49)).alloc (Obj.cells #[Value.int .i64 0, Value.int .i64 0, Value.int .i64 0, Value.int .i64 0, Value.int .i64 0, Value.slice none 0 0, Value.int .i64 0, Value.int .i64 0, Value.int .i64 0, Value.int .i64 0, Value.int .i64 0, Value.slice none 0 0] 53)).alloc (Obj.cells #[Value.int .i64 x0, Value.int .i64 x1, Value.int .i64 0, Value.int .i64 0, Value.int .i64 0, Value.slice none 0 0, Value.int .i64 0, Value.int .i64 0, Value.int .i64 0, Value.int .i64 0, Value.int .i64 0, Value.slice none 0 0] 53)).cell? ⟨w.heap.size, 8, none⟩ = some (.int .i64 x8) := by simp [go_sem]
  have k9 : (((w.alloc (Obj.cells #[Value.int .i64 x0, Value.int .i64 x1, Value.int .i64 x2, Value.int .i64 x3, Value.int .i64 x4, Value.slice a5 n5 c5, Value.int .i64 x6, Value.int .i64 x7, Value.int .i64 x8, Value.int .i64 x9, Value.int .i64 x10, Value.slice a11 n11 c11] 49)).alloc (Obj.cells #[Value.int .i64 0, Value.int .i64 0, Value.int .i64 0, Value.int .i64 0, Value.int .i64 0, Value.slice none 0 0, Value.int .i64 0, Value.int .i64 0, Value.int .i64 0, Value.int .i64 0, Value.int .i64 0, Value.slice none 0 0] 53)).alloc (Obj.cells #[Value.int .i64 x0, Value.int .i64 x1, Value.int .i64 0, Value.int .i64 0, Value.int .i64 0, Value.slice none 0 0, Value.int .i64 0, Value.int .i64 0, Value.int .i64 0, Value.int .i64 0, Value.int .i64 0, Value.slice none 0 0] 53)).cell? ⟨w.heap.size, 9, none⟩ = some (.int .i64 x9) := by simp [go_sem]
  have k10 : (((w.alloc (Obj.cells #[Value.int .i64 x0, Value.int .i64 x1, Value.int .i64 x2, Value.int .i64 x3, Value.int .i64 x4, Value.slice a5 n5 c5, Value.int .i64 x6, Value.int .i64 x7, Value.int .i64 x8, Value.int .i64 x9, Value.int .i64 x10, Value.slice a11 n11 c11] 49)).alloc (Obj.cells #[Value.int .i64 0, Value.int .i64 0, Value.int .i64 0, Value.int .i64 0, Value.int .i64 0, Value.slice none 0 0, Value.int .i64 0, Value.int .i64 0, Value.int .i64 0, Value.int .i64 0, Value.int .i64 0, Value.slice none 0 0] 53)).alloc (Obj.cells #[Value.int .i64 x0, Value.int .i64 x1, Value.int .i64 0, Value.int .i64 0, Value.int .i64 0, Value.slice none 0 0, Value.int .i64 0, Value.int .i64 0, Value.int .i64 0, Value.int .i64 0, Value.int .i64 0, Value.slice none 0 0] 53)).cell? ⟨w.heap.size, 10, none⟩ = some (.int .i64 x10) := by simp [go_sem]
  have k11 : (((w.alloc (Obj.cells #[Value.int .i64 x0, Value.int .i64 x1, Value.int .i64 x2, Value.int .i64 x3, Value.int .i64 x4, Value.slice a5 n5 c5, Value.int .i64 x6, Value.int .i64 x7, Value.int .i64 x8, Value.int .i64 x9, Value.int .i64 x10, Value.slice a11 n11 c11] 49)).alloc (Obj.cells #[Value.int .i64 0, Value.int .i64 0, Value.int .i64 0, Value.int .i64 0, Value.int .i64 0, Value.slice none 0 0, Value.int .i64 0, Value.int .i64 0, Value.int .i64 0, Value.int .i64 0, Value.int .i64 0, Value.slice none 0 0] 53)).alloc (Obj.cells #[Value.int .i64 x0, Value.int .i64 x1, Value.int .i64 0, Value.int .i64 0, Value.int .i64 0, Value.slice none 0 0, Value.int .i64 0, Value.int .i64 0, Value.int .i64 0, Value.int .i64 0, Value.int .i64 0, Value.slice none 0 0] 53)).cell? ⟨w.heap.size, 11, none⟩ = some (.slice a11 n11 c11) := by simp [go_sem]
  have r0 : (((w.alloc (Obj.cells #[Value.int .i64 x0, Value.int .i64 x1, Value.int .i64 x2, Value.int .i64 x3, Value.int .i64 x4, Value.slice a5 n5 c5, Value.int .i64 x6, Value.int .i64 x7, Value.int .i64 x8, Value.int .i64 x9, Value.int .i64 x10, Value.slice a11 n11 c11] 49)).alloc (Obj.cells #[Value.int .i64 0, Value.int .i64 0, Value.int .i64 0, Value.int .i64 0, Value.int .i64 0, Value.slice none 0 0, Value.int .i64 0, Value.int .i64 0, Value.int .i64 0, Value.int .i64 0, Value.int .i64 0, Value.slice none 0 0] 53)).alloc (Obj.cells #[Value.int .i64 x0, Value.int .i64 x1, Value.int .i64 0, Value.int .i64 0, Value.int .i64 0, Value.slice none 0 0, Value.int .i64 0, Value.int .i64 0, Value.int .i64 0, Value.int .i64 0, Value.int .i64 0, Value.slice none 0 0] 53)).cell? ⟨w.heap.size + 1, 0, none⟩ = some (.int .i64 0) := by simp [go_sem]
  have r1 : (((w.alloc (Obj.cells #[Value.int .i64 x0, Value.int .i64 x1, Value.int .i64 x2, Value.int .i64 x3, Value.int .i64 x4, Value.slice a5 n5 c5, Value.int .i64 x6, Value.int .i64 x7, Value.int .i64 x8, Value.int .i64 x9, Value.int .i64 x10, Value.slice a11 n11 c11] 49)).alloc (Obj.cells #[Value.int .i64 0, Value.int .i64 0, Value.int .i64 0, Value.int .i64 0, Value.int .i64 0, Value.slice none 0 0, Value.int .i64 0, Value.int .i64 0, Value.int .i64 0, Value.int .i64 0, Value.int .i64 0, Value.slice none 0 0] 53)).alloc (Obj.cells #[Value.int .i64 x0, Value.int .i64 x1, Value.int .i64 0, Value.int .i64 0, Value.int .i64 0, Value.slice none 0 0, Value.int .i64 0, Value.int .i64 0, Value.int .i64 0, Value.int .i64 0, Value.int .i64 0, Value.slice none 0 0] 53)).cell? ⟨w.heap.size + 1, 1, none⟩ = some (.int .i64 0) := by simp [go_sem]
  have r2 : (((w.alloc (Obj.cells #[Value.int .i64 x0, Value.int .i64 x1, Value.int .i64 x2, Value.int .i64 x3, Value.int .i64 x4, Value.slice a5 n5 c5, Value.int .i64 x6, Value.int .i64 x7, Value.int .i64 x8, Value.int .i64 x9, Value.int .i64 x10, Value.slice a11 n11 c11] 49)).alloc (Obj.cells #[Value.int .i64 0, Value.int .i64 0, Value.int .i64 0, Value.int .i64 0, Value.int .i64 0, Value.slice none 0 0, Value.int .i64 0, Value.int .i64 0, Value.int .i64 0, Value.int .i64 0, Value.int .i64 0, Value.slice none 0 0] 53)).alloc (Obj.cells #[Value.int .i64 x0, Value.int .i64 x1, Value.int .i64 0, Value.int .i64 0, Value.int .i64 0, Value.slice none 0 0, Value.int .i64 0, Value.int .i64 0, Value.int .i64 0, Value.int .i64 0, Value.int .i64 0, Value.slice none 0 0] 53)).cell? ⟨w.heap.size + 1, 2, none⟩ = some (.int .i64 0) := by simp [go_sem]
  have r3 : (((w.alloc (Obj.cells #[Value.int .i64 x0, Value.int .i64 x1, Value.int .i64 x2, Value.int .i64 x3, Value.int .i64 x4, Value.slice a5 n5 c5, Value.int .i64 x6, Value.int .i64 x7, Value.int .i64 x8, Value.int .i64 x9, Value.int .i64 x10, Value.slice a11 n11 c11] 49)).alloc (Obj.cells #[Value.int .i64 0, Value.int .i64 0, Value.int .i64 0, Value.int .i64 0, Value.int .i64 0, Value.slice none 0 0, Value.int .i64 0, Value.int .i64 0, Value.int .i64 0, Value.int .i64 0, Value.int .i64 0, Value.slice none 0 0] 53)).alloc (Obj.cells #[Value.int .i64 x0, Value.int .i64 x1, Value.int .i64 0, Value.int .i64 0, Value.int .i64 0, Value.slice none 0 0, Value.int .i64 0, Value.int .i64 0, Value.int .i64 0, Value.int .i64 0, Value.int .i64 0, Value.slice none 0 0] 53)).cell? ⟨w.heap.size + 1, 3, none⟩ = some (.int .i64 0) := by simp [go_sem]
  have r4 : (((w.alloc (Obj.cells #[Value.int .i64 x0, Value.int .i64 x1, Value.int .i64 x2, Value.int .i64 x3, Value.int .i64 x4, Value.slice a5 n5 c5, Value.int .i64 x6, Value.int .i64 x7, Value.int .i64 x8, Value.int .i64 x9, Value.int .i64 x10, Value.slice a11 n11 c11] 49)).alloc (Obj.cells #[Value.int .i64 0, Value.int .i64 0, Value.int .i64 0, Value.int .i64 0, Value.int .i64 0, Value.slice none 0 0, Value.int .i64 0, Value.int .i64 0, Value.int .i64 0, Value.int .i64 0, Value.int .i64 0, Value.slice none 0 0] 53)).alloc (Obj.cells #[Value.int .i64 x0, Value.int .i64 x1, Value.int .i64 0, Value.int .i64 0, Value.int .i64 0, Value.slice none 0 0, Value.int .i64 0, Value.int .i64 0, Value.int .i64 0, Value.int .i64 0, Value.int .i64 0, Value.slice none 0 0] 53)).cell? ⟨w.heap.size + 1, 4, none⟩ = some (.int .i64 0) := by simp [go_sem]
  have r5 : (((w.alloc (Obj.cells #[Value.int .i64 x0, Value.int .i64 x1, Value.int .i64 x2, Value.int .i64 x3, Value.int .i64 x4, Value.slice a5 n5 c5, Value.int .i64 x6, Value.int .i64 x7, Value.int .i64 x8, Value.int .i64 x9, Value.int .i64 x10, Value.slice a11 n11 c11] 49)).alloc (Obj.cells #[Value.int .i64 0, Value.int .i64 0, Value.int .i64 0, Value.int .i64 0, Value.int .i64 0, Value.slice none 0 0, Value.int .i64 0, Value.int .i64 0, Value.int .i64 0, Value.int .i64 0, Value.int .i64 0, Value.slice none 0 0] 53)).alloc (Obj.cells #[Value.int .i64 x0, Value.int .i64 x1, Value.int .i64 0, Value.int .i64 0, Value.int .i64 0, Value.slice none 0 0, Value.int .i64 0, Value.int .i64 0, Value.int .i64 0, Value.int .i64 0, Value.int .i64 0, Value.slice none 0 0] 53)).cell? ⟨w.heap.size + 1, 5, none⟩ = some (.slice none 0 0) := by simp [go_sem]
  have r6 : (((w.alloc (Obj.cells #[Value.int .i64 x0, Value.int .i64 x1, Value.int .i64 x2, Value.int .i64 x3, Value.int .i64 x4, Value.slice a5 n5 c5, Value.int .i64 x6, Value.int .i64 x7, Value.int .i64 x8, Value.int .i64 x9, Value.int .i64 x10, Value.slice a11 n11 c11] 49)).alloc (Obj.cells #[Value.int .i64 0, Value.int .i64 0, Value.int .i64 0, Value.int .i64 0, Value.int .i64 0, Value.slice none 0 0, Value.int .i64 0, Value.int .i64 0, Value.int .i64 0, Value.int .i64 0, Value.int .i64 0, Value.slice none 0 0] 53)).alloc (Obj.cells #[Value.int .i64 x0, Value.int .i64 x1, Value.int .i64 0, Value.int .i64 0, Value.int .i64 0, Value.slice none 0 0, Value.int .i64 0, Value.int .i64 0, Value.int .i64 0, Value.int .i64 0, Value.int .i64 0, Value.slice none 0 0] 53)).cell? ⟨w.heap.size + 1, 6, none⟩ = some (.int .i64 0) := by simp [go_sem]
  have r7 : (((w.alloc (Obj.cells #[Value.int .i64 x0, Value.int .i64 x1, Value.int .i64 x2, Value.int .i64 x3, Value.int .i64 x4, Value.slice a5 n5 c5, Value.int .i64 x6, Value.int .i64 x7, Value.int .i64 x8, Value.int .i64 x9, Value.int .i64 x10, Value.slice a11 n11 c11] 49)).alloc (Obj.cells #[Value.int .i64 0, Value.int .i64 0, Value.int .i64 0, Value.int .i64 0, Value.int .i64 0, Value.slice none 0 0, Value.int .i64 0, Value.int .i64 0, Value.int .i64 0, Value.int .i64 0, Value.int .i64 0, Value.slice none 0 0] 53)).alloc (Obj.cells #[Value.int .i64 x0, Value.int .i64 x1, Value.int .i64 0, Value.int .i64 0, Value.int .i64 0, Value.slice none 0 0, Value.int .i64 0, Value.int .i64 0, Value.int .i64 0, Value.int .i64 0, Value.int .i64 0, Value.slice none 0 0] 53)).cell? ⟨w.heap.size + 1, 7, none⟩ = some (.int .i64 0) := by simp [go_sem]
  have r8 : (((w.alloc (Obj.cells #[Value.int .i64 x0, Value.int .i64 x1, Value.int .i64 x2, Value.int .i64 x3, Value.int .i64 x4, Value.slice a5 n5 c5, Value.int .i64 x6, Value.int .i64 x7, Value.int .i64 x8, Value.int .i64 x9, Value.int .i64 x10, Value.slice a11 n11 c11] 49)).alloc (Obj.cells #[Value.int .i64 0, Value.int .i64 0, Value.int .i64 0, Value.int .i64 0, Value.int .i64 0, Value.slice none 0 0, Value.int .i64 0, Value.int .i64 0, Value.int .i64 0, Value.int .i64 0, Value.int .i64 0, Value.slice none 0 0] 53)).alloc (Obj.cells #[Value.int .i64 x0, Value.int .i64 x1, Value.int .i64 0, Value.int .i64 0, Value.int .i64 0, Value.slice none 0 0, Value.int .i64 0, Value.int .i64 0, Value.int .i64 0, Value.int .i64 0, Value.int .i64 0, Value.slice none 0 0] 53)).cell? ⟨w.heap.size + 1, 8, none⟩ = some (.int .i64 0) := by simp [go_sem]
  have r9 : (((w.alloc (Obj.cells #[Value.int .i64 x0, Value.int .i64 x1, Value.int .i64 x2, Value.int .i64 x3, Value.int .i64 x4, Value.slice a5 n5 c5, Value.int .i64 x6, Value.int .i64 x7, Value.int .i64 x8, Value.int .i64 x9, Value.int .i64 x10, Value.slice a11 n11 c11] 49)).alloc (Obj.cells #[Value.int .i64 0, Value.int .i64 0, Value.int .i64 0, Value.int .i64 0, Value.int .i64 0, Value.slice none 0 0, Value.int .i64 0, Value.int .i64 0, Value.int .i64 0, Value.int .i64 0, Value.int .i64 0, Value.slice none 0 0] 53)).alloc (Obj.cells #[Value.int .i64 x0, Value.int .i64 x1, Value.int .i64 0, Value.int .i64 0, Value.int .i64 0, Value.slice none 0 0, Value.int .i64 0, Value.int .i64 0, Value.int .i64 0, Value.int .i64 0, Value.int .i64 0, Value.slice none 0 0] 53)).cell? ⟨w.heap.size + 1, 9, none⟩ = some (.int .i64 0) := by simp [go_sem]
  have r10 : (((w.alloc (Obj.cells #[Value.int .i64 x0, Value.int .i64 x1, Value.int .i64 x2, Value.int .i64 x3, Value.int .i64 x4, Value.slice a5 n5 c5, Value.int .i64 x6, Value.int .i64 x7, Value.int .i64 x8, Value.int .i64 x9, Value.int .i64 x10, Value.slice a11 n11 c11] 49)).alloc (Obj.cells #[Value.int .i64 0, Value.int .i64 0, Value.int .i64 0, Value.int .i64 0, Value.int .i64 0, Value.slice none 0 0, Value.int .i64 0, Value.int .i64 0, Value.int .i64 0, Value.int .i64 0, Value.int .i64 0, Value.slice none 0 0] 53)).alloc (Obj.cells #[Value.int .i64 x0, Value.int .i64 x1, Value.int .i64 0, Value.int .i64 0, Value.int .i64 0, Value.slice none 0 0, Value.int .i64 0, Value.int .i64 0, Value.int .i64 0, Value.int .i64 0, Value.int .i64 0, Value.slice none 0 0] 53)).cell? ⟨w.heap.size + 1, 10, none⟩ = some (.int .i64 0) := by simp [go_sem]
  have r11 : (((w.alloc (Obj.cells #[Value.int .i64 x0, Value.int .i64 x1, Value.int .i64 x2, Value.int .i64 x3, Value.int .i64 x4, Value.slice a5 n5 c5, Value.int .i64 x6, Value.int .i64 x7, Value.int .i64 x8, Value.int .i64 x9, Value.int .i64 x10, Value.slice a11 n11 c11] 49)).alloc (Obj.cells #[Value.int .i64 0, Value.int .i64 0, Value.int .i64 0, Value.int .i64 0, Value.int .i64 0, Value.slice none 0 0, Value.int .i64 0, Value.int .i64 0, Value.int .i64 0, Value.int .i64 0, Value.int .i64 0, Value.slice none 0 0] 53)).alloc (Obj.cells #[Value.int .i64 x0, Value.int .i64 x1, Value.int .i64 0, Value.int .i64 0, Value.int .i64 0, Value.slice none 0 0, Value.int .i64 0, Value.int .i64 0, Value.int .i64 0, Value.int .i64 0, Value.int .i64 0, Value.slice none 0 0] 53)).cell? ⟨w.heap.size + 1, 11, none⟩ = some (.slice none 0 0) := by simp [go_sem]
  have p0 : (((w.alloc (Obj.cells #[Value.int .i64 x0, Value.int .i64 x1, Value.int .i64 x2, Value.int .i64 x3, Value.int .i64 x4, Value.slice a5 n5 c5, Value.int .i64 x6, Value.int .i64 x7, Value.int .i64 x8, Value.int .i64 x9, Value.int .i64 x10, Value.slice a11 n11 c11] 49)).alloc (Obj.cells #[Value.int .i64 0, Value.int .i64 0, Value.int .i64 0, Value.int .i64 0, Value.int .i64 0, Value.slice none 0 0, Value.int .i64 0, Value.int .i64 0, Value.int .i64 0, Value.int .i64 0, Value.int .i64 0, Value.slice none 0 0] 53)).alloc (Obj.cells #[Value.int .i64 x0, Value.int .i64 x1, Value.int .i64 0, Value.int .i64 0, Value.int .i64 0, Value.slice none 0 0, Value.int .i64 0, Value.int .i64 0, Value.int .i64 0, Value.int .i64 0, Value.int .i64 0, Value.slice none 0 0] 53)).cell? ⟨w.heap.size + 1 + 1, 0, none⟩ = some (.int .i64 x0) := by simp [go_sem]
  have p1 : (((w.alloc (Obj.cells #[Value.int .i64 x0, Value.int .i64 x1, Value.int .i64 x2, Value.int .i64 x3, Value.int .i64 x4, Value.slice a5 n5 c5, Value.int .i64 x6, Value.int .i64 x7, Value.int .i64 x8, Value.int .i64 x9, Value.int .i64 x10, Value.slice a11 n11 c11] 49)).alloc (Obj.cells #[Value.int .i64 0, Value.int .i64 0, Value.int .i64 0, Value.int .i64 0, Value.int .i64 0, Value.slice none 0 0, Value.int .i64 0, Value.int .i64 0, Value.int .i64 0, Value.int .i64 0, Value.int .i64 0, Value.slice none 0 0] 53)).alloc (Obj.cells #[Value.int .i64 x0, Value.int .i64 x1, Value.int .i64 0, Value.int .i64 0, Value.int .i64 0, Value.slice none 0 0, Value.int .i64 0, Value.int .i64 0, Value.int .i64 0, Value.int .i64 0, Value.int .i64 0, Value.slice none 0 0] 53)).cell? ⟨w.heap.size + 1 + 1, 1, none⟩ = some (.int .i64 x1) := by simp [go_sem]
  have p2 : (((w.alloc (Obj.cells #[Value.int .i64 x0, Value.int .i64 x1, Value.int .i64 x2, Value.int .i64 x3, Value.int .i64 x4, Value.slice a5 n5 c5, Value.int .i64 x6, Value.int .i64 x7, Value.int .i64 x8, Value.int .i64 x9, Value.int .i64 x10, Value.slice a11 n11 c11] 49)).alloc (Obj.cells #[Value.int .i64 0, Value.int .i64 0, Value.int .i64 0, Value.int .i64 0, Value.int .i64 0, Value.slice none 0 0, Value.int .i64 0, Value.int .i64 0, Value.int .i64 0, Value.int .i64 0, Value.int .i64 0, Value.slice none 0 0] 53)).alloc (Obj.cells #[Value.int .i64 x0, Value.int .i64 x1, Value.int .i64 0, Value.int .i64 0, Value.int .i64 0, Value.slice none 0 0, Value.int .i64 0, Value.int .i64 0, Value.int .i64 0, Value.int .i64 0, Value.int .i64 0, Value.slice none 0 0] 53)).cell? ⟨w.heap.size + 1 + 1, 2, none⟩ = some (.int .i64 0) := by simp [go_sem]
  have p3 : (((w.alloc (Obj.cells #[Value.int .i64 x0, Value.int .i64 x1, Value.int .i64 x2, Value.int .i64 x3, Value.int .i64 x4, Value.slice a5 n5 c5, Value.int .i64 x6, Value.int .i64 x7, Value.int .i64 x8, Value.int .i64 x9, Value.int .i64 x10, Value.slice a11 n11 c11] 49)).alloc (Obj.cells #[Value.int .i64 0, Value.int .i64 0, Value.int .i64 0, Value.int .i64 0, Value.int .i64 0, Value.slice none 0 0, Value.int .i64 0, Value.int .i64 0, Value.int .i64 0, Value.int .i64 0, Value.int .i64 0, Value.slice none 0 0] 53)).alloc (Obj.cells #[Value.int .i64 x0, Value.int .i64 x1, Value.int .i64 0, Value.int .i64 0, Value.int .i64 0, Value.slice none 0 0, Value.int .i64 0, Value.int .i64 0, Value.int .i64 0, Value.int .i64 0, Value.int .i64 0, Value.slice none 0 0] 53)).cell? ⟨w.heap.size + 1 + 1, 3, none⟩ = some (.int .i64 0) := by simp [go_sem]
  have p4 : (((w.alloc (Obj.cells #[Value.int .i64 x0, Value.int .i64 x1, Value.int .i64 x2, Value.int .i64 x3, Value.int .i64 x4, Value.slice a5 n5 c5, Value.int .i64 x6, Value.int .i64 x7, Value.int .i64 x8, Value.int .i64 x9, Value.int .i64 x10, Value.slice a11 n11 c11] 49)).alloc (Obj.cells #[Value.int .i64 0, Value.int .i64 0, Value.int .i64 0, Value.int .i64 0, Value.int .i64 0, Value.slice none 0 0, Value.int .i64 0, Value.int .i64 0, Value.int .i64 0, Value.int .i64 0, Value.int .i64 0, Value.slice none 0 0] 53)).alloc (Obj.cells #[Value.int .i64 x0, Value.int .i64 x1, Value.int .i64 0, Value.int .i64 0, Value.int .i64 0, Value.slice none 0 0, Value.int .i64 0, Value.int .i64 0, Value.int .i64 0, Value.int .i64 0, Value.int .i64 0, Value.slice none 0 0] 53)).cell? ⟨w.heap.size + 1 + 1, 4, none⟩ = some (.int .i64 0) := by simp [go_sem]
  have p5 : (((w.alloc (Obj.cells #[Value.int .i64 x0, Value.int .i64 x1, Value.int .i64 x2, Value.int .i64 x3, Value.int .i64 x4, Value.slice a5 n5 c5, Value.int .i64 x6, Value.int .i64 x7, Value.int .i64 x8, Value.int .i64 x9, Value.int .i64 x10, Value.slice a11 n11 c11] 49)).alloc (Obj.cells #[Value.int .i64 0, Value.int .i64 0, Value.int .i64 0, Value.int .i64 0, Value.int .i64 0, Value.slice none 0 0, Value.int .i64 0, Value.int .i64 0, Value.int .i64 0, Value.int .i64 0, Value.int .i64 0, Value.slice none 0 0] 53)).alloc (Obj.cells #[Value.int .i64 x0, Value.int .i64 x1, Value.int .i64 0, Value.int .i64 0, Value.int .i64 0, Value.slice none 0 0, Value.int .i64 0, Value.int .i64 0, Value.int .i64 0, Value.int .i64 0, Value.int .i64 0, Value.slice none 0 0] 53)).cell? ⟨w.heap.size + 1 + 1, 5, none⟩ = some (.slice none 0 0) := by simp [go_sem]
  have p6 : (((w.alloc (Obj.cells #[Value.int .i64 x0, Value.int .i64 x1, Value.int .i64 x2, Value.int .i64 x3, Value.int .i64 x4, Value.slice a5 n5 c5, Value.int .i64 x6, Value.int .i64 x7, Value.int .i64 x8, Value.int .i64 x9, Value.int .i64 x10, Value.slice a11 n11 c11] 49)).alloc (Obj.cells #[Value.int .i64 0, Value.int .i64 0, Value.int .i64 0, Value.int .i64 0, Value.int .i64 0, Value.slice none 0 0, Value.int .i64 0, Value.int .i64 0, Value.int .i64 0, Value.int .i64 0, Value.int .i64 0, Value.slice none 0 0] 53)).alloc (Obj.cells #[Value.int .i64 x0, Value.int .i64 x1, Value.int .i64 0, Value.int .i64 0, Value.int .i64 0, Value.slice none 0 0, Value.int .i64 0, Value.int .i64 0, Value.int .i64 0, Value.int .i64 0, Value.int .i64 0, Value.slice none 0 0] 53)).cell? ⟨w.heap.size + 1 + 1, 6, none⟩ = some (.int .i64 0) := by simp [go_sem]
  have p7 : (((w.alloc (Obj.cells #[Value.int .i64 x0, Value.int .i64 x1, Value.int .i64 x2, Value.int .i64 x3, Value.int .i64 x4, Value.slice a5 n5 c5, Value.int .i64 x6, Value.int .i64 x7, Value.int .i64 x8, Value.int .i64 x9, Value.int .i64 x10, Value.slice a11 n11 c11] 49)).alloc (Obj.cells #[Value.int .i64 0, Value.int .i64 0, Value.int .i64 0, Value.int .i64 0, Value.int .i64 0, Value.slice none 0 0, Value.int .i64 0, Value.int .i64 0, Value.int .i64 0, Value.int .i64 0, Value.int .i64 0, Value.slice none 0 0] 53)).alloc (Obj.cells #[Value.int .i64 x0, Value.int .i64 x1, Value.int .i64 0, Value.int .i64 0, Value.int .i64 0, Value.slice none 0 0, Value.int .i64 0, Value.int .i64 0, Value.int .i64 0, Value.int .i64 0, Value.int .i64 0, Value.slice none 0 0] 53)).cell? ⟨w.heap.size + 1 + 1, 7, none⟩ = some (.int .i64 0) := by simp [go_sem]
  have p8 : (((w.alloc (Obj.cells #[Value.int .i64 x0, Value.int .i64 x1, Value.int .i64 x2, Value.int .i64 x3, Value.int .i64 x4, Value.slice a5 n5 c5, Value.int .i64 x6, Value.int .i64 x7, Value.int .i64 x8, Value.int .i64 x9, Value.int .i64 x10, Value.slice a11 n11 c11] 49)).alloc (Obj.cells #[Value.int .i64 0, Value.int .i64 0, Value.int .i64 0, Value.int .i64 0, Value.int .i64 0, Value.slice none 0 0, Value.int .i64 0, Value.int .i64 0, Value.int .i64 0, Value.int .i64 0, Value.int .i64 0, Value.slice none 0 0] 53)).alloc (Obj.cells #[Value.int .i64 x0, Value.int .i64 x1, Value.int .i64 0, Value.int .i64 0, Value.int .i64 0, Value.slice none 0 0, Value.int .i64 0, Value.int .i64 0, Value.int .i64 0, Value.int .i64 0, Value.int .i64 0, Value.slice none 0 0] 53)).cell? ⟨w.heap.size + 1 + 1, 8, none⟩ = some (.int .i64 0) := by simp [go_sem]
  have p9 : (((w.alloc (Obj.cells #[Value.int .i64 x0, Value.int .i64 x1, Value.int .i64 x2, Value.int .i64 x3, Value.int .i64 x4, Value.slice a5 n5 c5, Value.int .i64 x6, Value.int .i64 x7, Value.int .i64 x8, Value.int .i64 x9, Value.int .i64 x10, Value.slice a11 n11 c11] 49)).alloc (Obj.cells #[Value.int .i64 0, Value.int .i64 0, Value.int .i64 0, Value.int .i64 0, Value.int .i64 0, Value.slice none 0 0, Value.int .i64 0, Value.int .i64 0, Value.int .i64 0, Value.int .i64 0, Value.int .i64 0, Value.slice none 0 0] 53)).alloc (Obj.cells #[Value.int .i64 x0, Value.int .i64 x1, Value.int .i64 0, Value.int .i64 0, Value.int .i64 0, Value.slice none 0 0, Value.int .i64 0, Value.int .i64 0, Value.int .i64 0, Value.int .i64 0, Value.int .i64 0, Value.slice none 0 0] 53)).cell? ⟨w.heap.size + 1 + 1, 9, none⟩ = some (.int .i64 0) := by simp [go_sem]
  have p10 : (((w.alloc (Obj.cells #[Value.int .i64 x0, Value.int .i64 x1, Value.int .i64 x2, Value.int .i64 x3, Value.int .i64 x4, Value.slice a5 n5 c5, Value.int .i64 x6, Value.int .i64 x7, Value.int .i64 x8, Value.int .i64 x9, Value.int .i64 x10, Value.slice a11 n11 c11] 49)).alloc (Obj.cells #[Value.int .i64 0, Value.int .i64 0, Value.int .i64 0, Value.int .i64 0, Value.int .i64 0, Value.slice none 0 0, Value.int .i64 0, Value.int .i64 0, Value.int .i64 0, Value.int .i64 0, Value.int .i64 0, Value.slice none 0 0] 53)).alloc (Obj.cells #[Value.int .i64 x0, Value.int .i64 x1, Value.int .i64 0, Value.int .i64 0, Value.int .i64 0, Value.slice none 0 0, Value.int .i64 0, Value.int .i64 0, Value.int .i64 0, Value.int .i64 0, Value.int .i64 0, Value.slice none 0 0] 53)).cell? ⟨w.heap.size + 1 + 1, 10, none⟩ = some (.int .i64 0) := by simp [go_sem]
  have p11 : (((w.alloc (Obj.cells #[Value.int .i64 x0, Value.int .i64 x1, Value.int .i64 x2, Value.int .i64 x3, Value.int .i64 x4, Value.slice a5 n5 c5, Value.int .i64 x6, Value.int .i64 x7, Value.int .i64 x8, Value.int .i64 x9, Value.int .i64 x10, Value.slice a11 n11 c11] 49)).alloc (Obj.cells #[Value.int .i64 0, Value.int .i64 0, Value.int .i64 0, Value.int .i64 0, Value.int .i64 0, Value.slice none 0 0, Value.int .i64 0, Value.int .i64 0, Value.int .i64 0, Value.int .i64 0, Value.int .i64 0, Value.slice none 0 0] 53)).alloc (Obj.cells #[Value.int .i64 x0, Value.int .i64 x1, Value.int .i64 0, Value.int .i64 0, Value.int .i64 0, Value.slice none 0 0, Value.int .i64 0, Value.int .i64 0, Value.int .i64 0, Value.int .i64 0, Value.int .i64 0, Value.slice none 0 0] 53)).cell? ⟨w.heap.size + 1 + 1, 11, none⟩ = some (.slice none 0 0) := by simp [go_sem]
  have fr : ∀ q, (((w.alloc (Obj.cells #[Value.int .i64 x0, Value.int .i64 x1, Value.int .i64 x2, Value.int .i64 x3, Value.int .i64 x4, Value.slice a5 n5 c5, Value.int .i64 x6, Value.int .i64 x7, Value.int .i64 x8, Value.int .i64 x9, Value.int .i64 x10, Value.slice a11 n11 c11] 49)).alloc (Obj.cells #[Value.int .i64 0, Value.int .i64 0, Value.int .i64 0, Value.int .i64 0, Value.int .i64 0, Value.slice none 0 0, Value.int .i64 0, Value.int .i64 0, Value.int .i64 0, Value.int .i64 0, Value.int .i64 0, Value.slice none 0 0] 53)).alloc (Obj.cells #[Value.int .i64 x0, Value.int .i64 x1, Value.int .i64 0, Value.int .i64 0, Value.int .i64 0, Value.slice none 0 0, Value.int .i64 0, Value.int .i64 0, Value.int .i64 0, Value.int .i64 0, Value.int .i64 0, Value.slice none 0 0] 53)).frozen? ⟨w.heap.size + 1, q, none⟩ = false := fun q => by simp [go_sem]
  have fp : ∀ q, (((w.alloc (Obj.cells #[Value.int .i64 x0, Value.int .i64 x1, Value.int .i64 x2, Value.int .i64 x3, Value.int .i64 x4, Value.slice a5 n5 c5, Value.int .i64 x6, Value.int .i64 x7, Value.int .i64 x8, Value.int .i64 x9, Value.int .i64 x10, Value.slice a11 n11 c11] 49)).alloc (Obj.cells #[Value.int .i64 0, Value.int .i64 0, Value.int .i64 0, Value.int .i64 0, Value.int .i64 0, Value.slice none 0 0, Value.int .i64 0, Value.int .i64 0, Value.int .i64 0, Value.int .i64 0, Value.int .i64 0, Value.slice none 0 0] 53)).alloc (Obj.cells #[Value.int .i64 x0, Value.int .i64 x1, Value.int .i64 0, Value.int .i64 0, Value.int .i64 0, Value.slice none 0 0, Value.int .i64 0, Value.int .i64 0, Value.int .i64 0, Value.int .i64 0, Value.int .i64 0, Value.slice none 0 0] 53)).frozen? ⟨w.heap.size + 1 + 1, q, none⟩ = false := fun q => by simp [go_sem]
  have sz0 : (((w.alloc (Obj.cells #[Value.int .i64 x0, Value.int .i64 x1, Value.int .i64 x2, Value.int .i64 x3, Value.int .i64 x4, Value.slice a5 n5 c5, Value.int .i64 x6, Value.int .i64 x7, Value.int .i64 x8, Value.int .i64 x9, Value.int .i64 x10, Value.slice a11 n11 c11] 49)).alloc (Obj.cells #[Value.int .i64 0, Value.int .i64 0, Value.int .i64 0, Value.int .i64 0, Value.int .i64 0, Value.slice none 0 0, Value.int .i64 0, Value.int .i64 0, Value.int .i64 0, Value.int .i64 0, Value.int .i64 0, Value.slice none 0 0] 53)).alloc (Obj.cells #[Value.int .i64 x0, Value.int .i64 x1, Value.int .i64 0, Value.int .i64 0, Value.int .i64 0, Value.slice none 0 0, Value.int .i64 0, Value.int .i64 0, Value.int .i64 0, Value.int .i64 0, Value.int .i64 0, Value.slice none 0 0] 53)).heap.size = w.heap.size + 1 + 1 + 1 := by simp only [World.size_alloc]
  go_enter Try.func34, Try.ntmps34
  go_wp2_with fail
  generalize (((w.alloc (Obj.cells #[Value.int .i64 x0, Value.int .i64 x1, Value.int .i64 x2, Value.int .i64 x3, Value.int .i64 x4, Value.slice a5 n5 c5, Value.int .i64 x6, Value.int .i64 x7, Value.int .i64 x8, Value.int .i64 x9, Value.int .i64 x10, Value.slice a11 n11 c11] 49)).alloc (Obj.cells #[Value.int .i64 0, Value.int .i64 0, Value.int .i64 0, Value.int .i64 0, Value.int .i64 0, Value.slice none 0 0, Value.int .i64 0, Value.int .i64 0, Value.int .i64 0, Value.int .i64 0, Value.int .i64 0, Value.slice none 0 0] 53)).alloc (Obj.cells #[Value.int .i64 x0, Value.int .i64 x1, Value.int .i64 0, Value.int .i64 0, Value.int .i64 0, Value.slice none 0 0, Value.int .i64 0, Value.int .i64 0, Value.int .i64 0, Value.int .i64 0, Value.int .i64 0, Value.slice none 0 0] 53)) = u0 at *
  refine (toPacketC x2 x3 x4 x6 x7 x8 x9 x10 a5 n5 c5 z5 a11 n11 c11 z11 B _ (h5.mk M hB (.inr (Nat.le_refl _))) (h11.mk M hB (.inr (Nat.le_refl _))) (Nat.le_trans hB M.size) hn5 hn11).mono ?_
  rintro e w1 ⟨b5, b11, d5, rfl, o5, o11, g5, g11, m1⟩
  have zt1 := m1.size
  clear k2
  clear k3
  clear k4
  clear k5
  clear k6
  clear k7
  clear k8
  clear k9
  clear k10
  clear k11
  replace r0 := m1.cellAt r0
  replace r1 := m1.cellAt r1
  replace r2 := m1.cellAt r2
  replace r3 := m1.cellAt r3
  replace r4 := m1.cellAt r4
  replace r5 := m1.cellAt r5
  replace r6 := m1.cellAt r6
  replace r7 := m1.cellAt r7
  replace r8 := m1.cellAt r8
  replace r9 := m1.cellAt r9
  replace r10 := m1.cellAt r10
  replace r11 := m1.cellAt r11
  replace p0 := m1.cellAt p0
  replace p1 := m1.cellAt p1
  replace p2 := m1.cellAt p2
  replace p3 := m1.cellAt p3
  replace p4 := m1.cellAt p4
  replace p5 := m1.cellAt p5
  replace p6 := m1.cellAt p6
  replace p7 := m1.cellAt p7
  replace p8 := m1.cellAt p8
  replace p9 := m1.cellAt p9
  replace p10 := m1.cellAt p10
  replace p11 := m1.cellAt p11
  replace fr := fun q => (m1.frozen (b := w.heap.size + 1) (o := q) (by omega) (.inr (Nat.zero_le _))).trans (fr q)
  replace fp := fun q => (m1.frozen (b := w.heap.size + 1 + 1) (o := q) (by omega) (.inr (Nat.zero_le _))).trans (fp q)
  replace M := M.trans m1
  clear m1
  go_upto_region 5 with fail
  replace p0 := cell_set p0 ⟨w.heap.size + 1 + 1, 2, none⟩ (.int .i64 x2) (.inr (by simp))
  replace p1 := cell_set p1 ⟨w.heap.size + 1 + 1, 2, none⟩ (.int .i64 x2) (.inr (by simp))
  replace p2 := World.cell?_setCell_same _ _ (.int .i64 x2) p2
  replace p3 := cell_set p3 ⟨w.heap.size + 1 + 1, 2, none⟩ (.int .i64 x2) (.inr (by simp))
  replace p4 := cell_set p4 ⟨w.heap.size + 1 + 1, 2, none⟩ (.int .i64 x2) (.inr (by simp))
  replace p5 := cell_set p5 ⟨w.heap.size + 1 + 1, 2, none⟩ (.int .i64 x2) (.inr (by simp))
  replace p6 := cell_set p6 ⟨w.heap.size + 1 + 1, 2, none⟩ (.int .i64 x2) (.inr (by simp))
  replace p7 := cell_set p7 ⟨w.heap.size + 1 + 1, 2, none⟩ (.int .i64 x2) (.inr (by simp))
  replace p8 := cell_set p8 ⟨w.heap.size + 1 + 1, 2, none⟩ (.int .i64 x2) (.inr (by simp))
  replace p9 := cell_set p9 ⟨w.heap.size + 1 + 1, 2, none⟩ (.int .i64 x2) (.inr (by simp))
  replace p10 := cell_set p10 ⟨w.heap.size + 1 + 1, 2, none⟩ (.int .i64 x2) (.inr (by simp))
  replace p11 := cell_set p11 ⟨w.heap.size + 1 + 1, 2, none⟩ (.int .i64 x2) (.inr (by simp))
  replace r0 := cell_set r0 ⟨w.heap.size + 1 + 1, 2, none⟩ (.int .i64 x2) (.inl (show w.heap.size + 1 + 1 ≠ w.heap.size + 1 from by omega))
  replace r1 := cell_set r1 ⟨w.heap.size + 1 + 1, 2, none⟩ (.int .i64 x2) (.inl (show w.heap.size + 1 + 1 ≠ w.heap.size + 1 from by omega))
  replace r2 := cell_set r2 ⟨w.heap.size + 1 + 1, 2, none⟩ (.int .i64 x2) (.inl (show w.heap.size + 1 + 1 ≠ w.heap.size + 1 from by omega))
  replace r3 := cell_set r3 ⟨w.heap.size + 1 + 1, 2, none⟩ (.int .i64 x2) (.inl (show w.heap.size + 1 + 1 ≠ w.heap.size + 1 from by omega))
  replace r4 := cell_set r4 ⟨w.heap.size + 1 + 1, 2, none⟩ (.int .i64 x2) (.inl (show w.heap.size + 1 + 1 ≠ w.heap.size + 1 from by omega))
  replace r5 := cell_set r5 ⟨w.heap.size + 1 + 1, 2, none⟩ (.int .i64 x2) (.inl (show w.heap.size + 1 + 1 ≠ w.heap.size + 1 from by omega))
  replace r6 := cell_set r6 ⟨w.heap.size + 1 + 1, 2, none⟩ (.int .i64 x2) (.inl (show w.heap.size + 1 + 1 ≠ w.heap.size + 1 from by omega))
  replace r7 := cell_set r7 ⟨w.heap.size + 1 + 1, 2, none⟩ (.int .i64 x2) (.inl (show w.heap.size + 1 + 1 ≠ w.heap.size + 1 from by omega))
  replace r8 := cell_set r8 ⟨w.heap.size + 1 + 1, 2, none⟩ (.int .i64 x2) (.inl (show w.heap.size + 1 + 1 ≠ w.heap.size + 1 from by omega))
  replace r9 := cell_set r9 ⟨w.heap.size + 1 + 1, 2, none⟩ (.int .i64 x2) (.inl (show w.heap.size + 1 + 1 ≠ w.heap.size + 1 from by omega))
  replace r10 := cell_set r10 ⟨w.heap.size + 1 + 1, 2, none⟩ (.int .i64 x2) (.inl (show w.heap.size + 1 + 1 ≠ w.heap.size + 1 from by omega))
  replace r11 := cell_set r11 ⟨w.heap.size + 1 + 1, 2, none⟩ (.int .i64 x2) (.inl (show w.heap.size + 1 + 1 ≠ w.heap.size + 1 from by omega))
  replace fr := fun q => frozen_set (fr q) ⟨w.heap.size + 1 + 1, 2, none⟩ (.int .i64 x2)
  replace fp := fun q => frozen_set (fp q) ⟨w.heap.size + 1 + 1, 2, none⟩ (.int .i64 x2)
  replace o5 := o5.set ⟨w.heap.size + 1 + 1, 2, none⟩ (.int .i64 x2) (.inl (show w.heap.size + 1 + 1 < _ from by omega))
  replace o11 := o11.set ⟨w.heap.size + 1 + 1, 2, none⟩ (.int .i64 x2) (.inl (show w.heap.size + 1 + 1 < _ from by omega))
  replace M := M.put ⟨w.heap.size + 1 + 1, 2, none⟩ (.int .i64 x2) (show w.heap.size ≤ w.heap.size + 1 + 1 from by omega)
  replace p0 := cell_set p0 ⟨w.heap.size + 1 + 1, 3, none⟩ (.int .i64 x3) (.inr (by simp))
  replace p1 := cell_set p1 ⟨w.heap.size + 1 + 1, 3, none⟩ (.int .i64 x3) (.inr (by simp))
  replace p2 := cell_set p2 ⟨w.heap.size + 1 + 1, 3, none⟩ (.int .i64 x3) (.inr (by simp))
  replace p3 := World.cell?_setCell_same _ _ (.int .i64 x3) p3
  replace p4 := cell_set p4 ⟨w.heap.size + 1 + 1, 3, none⟩ (.int .i64 x3) (.inr (by simp))
  replace p5 := cell_set p5 ⟨w.heap.size + 1 + 1, 3, none⟩ (.int .i64 x3) (.inr (by simp))
  replace p6 := cell_set p6 ⟨w.heap.size + 1 + 1, 3, none⟩ (.int .i64 x3) (.inr (by simp))
  replace p7 := cell_set p7 ⟨w.heap.size + 1 + 1, 3, none⟩ (.int .i64 x3) (.inr (by simp))
  replace p8 := cell_set p8 ⟨w.heap.size + 1 + 1, 3, none⟩ (.int .i64 x3) (.inr (by simp))
  replace p9 := cell_set p9 ⟨w.heap.size + 1 + 1, 3, none⟩ (.int .i64 x3) (.inr (by simp))
  replace p10 := cell_set p10 ⟨w.heap.size + 1 + 1, 3, none⟩ (.int .i64 x3) (.inr (by simp))
  replace p11 := cell_set p11 ⟨w.heap.size + 1 + 1, 3, none⟩ (.int .i64 x3) (.inr (by simp))
  replace r0 := cell_set r0 ⟨w.heap.size + 1 + 1, 3, none⟩ (.int .i64 x3) (.inl (show w.heap.size + 1 + 1 ≠ w.heap.size + 1 from by omega))
  replace r1 := cell_set r1 ⟨w.heap.size + 1 + 1, 3, none⟩ (.int .i64 x3) (.inl (show w.heap.size + 1 + 1 ≠ w.heap.size + 1 from by omega))
  replace r2 := cell_set r2 ⟨w.heap.size + 1 + 1, 3, none⟩ (.int .i64 x3) (.inl (show w.heap.size + 1 + 1 ≠ w.heap.size + 1 from by omega))
  replace r3 := cell_set r3 ⟨w.heap.size + 1 + 1, 3, none⟩ (.int .i64 x3) (.inl (show w.heap.size + 1 + 1 ≠ w.heap.size + 1 from by omega))
  replace r4 := cell_set r4 ⟨w.heap.size + 1 + 1, 3, none⟩ (.int .i64 x3) (.inl (show w.heap.size + 1 + 1 ≠ w.heap.size + 1 from by omega))
  replace r5 := cell_set r5 ⟨w.heap.size + 1 + 1, 3, none⟩ (.int .i64 x3) (.inl (show w.heap.size + 1 + 1 ≠ w.heap.size + 1 from by omega))
  replace r6 := cell_set r6 ⟨w.heap.size + 1 + 1, 3, none⟩ (.int .i64 x3) (.inl (show w.heap.size + 1 + 1 ≠ w.heap.size + 1 from by omega))
  replace r7 := cell_set r7 ⟨w.heap.size + 1 + 1, 3, none⟩ (.int .i64 x3) (.inl (show w.heap.size + 1 + 1 ≠ w.heap.size + 1 from by omega))
  replace r8 := cell_set r8 ⟨w.heap.size + 1 + 1, 3, none⟩ (.int .i64 x3) (.inl (show w.heap.size + 1 + 1 ≠ w.heap.size + 1 from by omega))
  replace r9 := cell_set r9 ⟨w.heap.size + 1 + 1, 3, none⟩ (.int .i64 x3) (.inl (show w.heap.size + 1 + 1 ≠ w.heap.size + 1 from by omega))
  replace r10 := cell_set r10 ⟨w.heap.size + 1 + 1, 3, none⟩ (.int .i64 x3) (.inl (show w.heap.size + 1 + 1 ≠ w.heap.size + 1 from by omega))
  replace r11 := cell_set r11 ⟨w.heap.size + 1 + 1, 3, none⟩ (.int .i64 x3) (.inl (show w.heap.size + 1 + 1 ≠ w.heap.size + 1 from by omega))
  replace fr := fun q => frozen_set (fr q) ⟨w.heap.size + 1 + 1, 3, none⟩ (.int .i64 x3)
  replace fp := fun q => frozen_set (fp q) ⟨w.heap.size + 1 + 1, 3, none⟩ (.int .i64 x3)
  replace o5 := o5.set ⟨w.heap.size + 1 + 1, 3, none⟩ (.int .i64 x3) (.inl (show w.heap.size + 1 + 1 < _ from by omega))
  replace o11 := o11.set ⟨w.heap.size + 1 + 1, 3, none⟩ (.int .i64 x3) (.inl (show w.heap.size + 1 + 1 < _ from by omega))
  replace M := M.put ⟨w.heap.size + 1 + 1, 3, none⟩ (.int .i64 x3) (show w.heap.size ≤ w.heap.size + 1 + 1 from by omega)
  replace p0 := cell_set p0 ⟨w.heap.size + 1 + 1, 4, none⟩ (.int .i64 x4) (.inr (by simp))
  replace p1 := cell_set p1 ⟨w.heap.size + 1 + 1, 4, none⟩ (.int .i64 x4) (.inr (by simp))
  replace p2 := cell_set p2 ⟨w.heap.size + 1 + 1, 4, none⟩ (.int .i64 x4) (.inr (by simp))
  replace p3 := cell_set p3 ⟨w.heap.size + 1 + 1, 4, none⟩ (.int .i64 x4) (.inr (by simp))
  replace p4 := World.cell?_setCell_same _ _ (.int .i64 x4) p4
  replace p5 := cell_set p5 ⟨w.heap.size + 1 + 1, 4, none⟩ (.int .i64 x4) (.inr (by simp))
  replace p6 := cell_set p6 ⟨w.heap.size + 1 + 1, 4, none⟩ (.int .i64 x4) (.inr (by simp))
  replace p7 := cell_set p7 ⟨w.heap.size + 1 + 1, 4, none⟩ (.int .i64 x4) (.inr (by simp))
  replace p8 := cell_set p8 ⟨w.heap.size + 1 + 1, 4, none⟩ (.int .i64 x4) (.inr (by simp))
  replace p9 := cell_set p9 ⟨w.heap.size + 1 + 1, 4, none⟩ (.int .i64 x4) (.inr (by simp))
  replace p10 := cell_set p10 ⟨w.heap.size + 1 + 1, 4, none⟩ (.int .i64 x4) (.inr (by simp))
  replace p11 := cell_set p11 ⟨w.heap.size + 1 + 1, 4, none⟩ (.int .i64 x4) (.inr (by simp))
  replace r0 := cell_set r0 ⟨w.heap.size + 1 + 1, 4, none⟩ (.int .i64 x4) (.inl (show w.heap.size + 1 + 1 ≠ w.heap.size + 1 from by omega))
  replace r1 := cell_set r1 ⟨w.heap.size + 1 + 1, 4, none⟩ (.int .i64 x4) (.inl (show w.heap.size + 1 + 1 ≠ w.heap.size + 1 from by omega))
  replace r2 := cell_set r2 ⟨w.heap.size + 1 + 1, 4, none⟩ (.int .i64 x4) (.inl (show w.heap.size + 1 + 1 ≠ w.heap.size + 1 from by omega))
  replace r3 := cell_set r3 ⟨w.heap.size + 1 + 1, 4, none⟩ (.int .i64 x4) (.inl (show w.heap.size + 1 + 1 ≠ w.heap.size + 1 from by omega))
  replace r4 := cell_set r4 ⟨w.heap.size + 1 + 1, 4, none⟩ (.int .i64 x4) (.inl (show w.heap.size + 1 + 1 ≠ w.heap.size + 1 from by omega))
  replace r5 := cell_set r5 ⟨w.heap.size + 1 + 1, 4, none⟩ (.int .i64 x4) (.inl (show w.heap.size + 1 + 1 ≠ w.heap.size + 1 from by omega))
  replace r6 := cell_set r6 ⟨w.heap.size + 1 + 1, 4, none⟩ (.int .i64 x4) (.inl (show w.heap.size + 1 + 1 ≠ w.heap.size + 1 from by omega))
  replace r7 := cell_set r7 ⟨w.heap.size + 1 + 1, 4, none⟩ (.int .i64 x4) (.inl (show w.heap.size + 1 + 1 ≠ w.heap.size + 1 from by omega))
  replace r8 := cell_set r8 ⟨w.heap.size + 1 + 1, 4, none⟩ (.int .i64 x4) (.inl (show w.heap.size + 1 + 1 ≠ w.heap.size + 1 from by omega))
  replace r9 := cell_set r9 ⟨w.heap.size + 1 + 1, 4, none⟩ (.int .i64 x4) (.inl (show w.heap.size + 1 + 1 ≠ w.heap.size + 1 from by omega))
  replace r10 := cell_set r10 ⟨w.heap.size + 1 + 1, 4, none⟩ (.int .i64 x4) (.inl (show w.heap.size + 1 + 1 ≠ w.heap.size + 1 from by omega))
  replace r11 := cell_set r11 ⟨w.heap.size + 1 + 1, 4, none⟩ (.int .i64 x4) (.inl (show w.heap.size + 1 + 1 ≠ w.heap.size + 1 from by omega))
  replace fr := fun q => frozen_set (fr q) ⟨w.heap.size + 1 + 1, 4, none⟩ (.int .i64 x4)
  replace fp := fun q => frozen_set (fp q) ⟨w.heap.size + 1 + 1, 4, none⟩ (.int .i64 x4)
  replace o5 := o5.set ⟨w.heap.size + 1 + 1, 4, none⟩ (.int .i64 x4) (.inl (show w.heap.size + 1 + 1 < _ from by omega))
  replace o11 := o11.set ⟨w.heap.size + 1 + 1, 4, none⟩ (.int .i64 x4) (.inl (show w.heap.size + 1 + 1 < _ from by omega))
  replace M := M.put ⟨w.heap.size + 1 + 1, 4, none⟩ (.int .i64 x4) (show w.heap.size ≤ w.heap.size + 1 + 1 from by omega)
  replace p0 := cell_set p0 ⟨w.heap.size + 1 + 1, 5, none⟩ (.slice (some ⟨b5, 0, none⟩) n5 n5) (.inr (by simp))
  replace p1 := cell_set p1 ⟨w.heap.size + 1 + 1, 5, none⟩ (.slice (some ⟨b5, 0, none⟩) n5 n5) (.inr (by simp))
  replace p2 := cell_set p2 ⟨w.heap.size + 1 + 1, 5, none⟩ (.slice (some ⟨b5, 0, none⟩) n5 n5) (.inr (by simp))
  replace p3 := cell_set p3 ⟨w.heap.size + 1 + 1, 5, none⟩ (.slice (some ⟨b5, 0, none⟩) n5 n5) (.inr (by simp))
  replace p4 := cell_set p4 ⟨w.heap.size + 1 + 1, 5, none⟩ (.slice (some ⟨b5, 0, none⟩) n5 n5) (.inr (by simp))
  replace p5 := World.cell?_setCell_same _ _ (.slice (some ⟨b5, 0, none⟩) n5 n5) p5
  replace p6 := cell_set p6 ⟨w.heap.size + 1 + 1, 5, none⟩ (.slice (some ⟨b5, 0, none⟩) n5 n5) (.inr (by simp))
  replace p7 := cell_set p7 ⟨w.heap.size + 1 + 1, 5, none⟩ (.slice (some ⟨b5, 0, none⟩) n5 n5) (.inr (by simp))
  replace p8 := cell_set p8 ⟨w.heap.size + 1 + 1, 5, none⟩ (.slice (some ⟨b5, 0, none⟩) n5 n5) (.inr (by simp))
  replace p9 := cell_set p9 ⟨w.heap.size + 1 + 1, 5, none⟩ (.slice (some ⟨b5, 0, none⟩) n5 n5) (.inr (by simp))
  replace p10 := cell_set p10 ⟨w.heap.size + 1 + 1, 5, none⟩ (.slice (some ⟨b5, 0, none⟩) n5 n5) (.inr (by simp))
  replace p11 := cell_set p11 ⟨w.heap.size + 1 + 1, 5, none⟩ (.slice (some ⟨b5, 0, none⟩) n5 n5) (.inr (by simp))
  replace r0 := cell_set r0 ⟨w.heap.size + 1 + 1, 5, none⟩ (.slice (some ⟨b5, 0, none⟩) n5 n5) (.inl (show w.heap.size + 1 + 1 ≠ w.heap.size + 1 from by omega))
  replace r1 := cell_set r1 ⟨w.heap.size + 1 + 1, 5, none⟩ (.slice (some ⟨b5, 0, none⟩) n5 n5) (.inl (show w.heap.size + 1 + 1 ≠ w.heap.size + 1 from by omega))
  replace r2 := cell_set r2 ⟨w.heap.size + 1 + 1, 5, none⟩ (.slice (some ⟨b5, 0, none⟩) n5 n5) (.inl (show w.heap.size + 1 + 1 ≠ w.heap.size + 1 from by omega))
  replace r3 := cell_set r3 ⟨w.heap.size + 1 + 1, 5, none⟩ (.slice (some ⟨b5, 0, none⟩) n5 n5) (.inl (show w.heap.size + 1 + 1 ≠ w.heap.size + 1 from by omega))
  replace r4 := cell_set r4 ⟨w.heap.size + 1 + 1, 5, none⟩ (.slice (some ⟨b5, 0, none⟩) n5 n5) (.inl (show w.heap.size + 1 + 1 ≠ w.heap.size + 1 from by omega))
  replace r5 := cell_set r5 ⟨w.heap.size + 1 + 1, 5, none⟩ (.slice (some ⟨b5, 0, none⟩) n5 n5) (.inl (show w.heap.size + 1 + 1 ≠ w.heap.size + 1 from by omega))
  replace r6 := cell_set r6 ⟨w.heap.size + 1 + 1, 5, none⟩ (.slice (some ⟨b5, 0, none⟩) n5 n5) (.inl (show w.heap.size + 1 + 1 ≠ w.heap.size + 1 from by omega))
  replace r7 := cell_set r7 ⟨w.heap.size + 1 + 1, 5, none⟩ (.slice (some ⟨b5, 0, none⟩) n5 n5) (.inl (show w.heap.size + 1 + 1 ≠ w.heap.size + 1 from by omega))
  replace r8 := cell_set r8 ⟨w.heap.size + 1 + 1, 5, none⟩ (.slice (some ⟨b5, 0, none⟩) n5 n5) (.inl (show w.heap.size + 1 + 1 ≠ w.heap.size + 1 from by omega))
  replace r9 := cell_set r9 ⟨w.heap.size + 1 + 1, 5, none⟩ (.slice (some ⟨b5, 0, none⟩) n5 n5) (.inl (show w.heap.size + 1 + 1 ≠ w.heap.size + 1 from by omega))
  replace r10 := cell_set r10 ⟨w.heap.size + 1 + 1, 5, none⟩ (.slice (some ⟨b5, 0, none⟩) n5 n5) (.inl (show w.heap.size + 1 + 1 ≠ w.heap.size + 1 from by omega))
  replace r11 := cell_set r11 ⟨w.heap.size + 1 + 1, 5, none⟩ (.slice (some ⟨b5, 0, none⟩) n5 n5) (.inl (show w.heap.size + 1 + 1 ≠ w.heap.size + 1 from by omega))
  replace fr := fun q => frozen_set (fr q) ⟨w.heap.size + 1 + 1, 5, none⟩ (.slice (some ⟨b5, 0, none⟩) n5 n5)
  replace fp := fun q => frozen_set (fp q) ⟨w.heap.size + 1 + 1, 5, none⟩ (.slice (some ⟨b5, 0, none⟩) n5 n5)
  replace o5 := o5.set ⟨w.heap.size + 1 + 1, 5, none⟩ (.slice (some ⟨b5, 0, none⟩) n5 n5) (.inl (show w.heap.size + 1 + 1 < _ from by omega))
  replace o11 := o11.set ⟨w.heap.size + 1 + 1, 5, none⟩ (.slice (some ⟨b5, 0, none⟩) n5 n5) (.inl (show w.heap.size + 1 + 1 < _ from by omega))
  replace M := M.put ⟨w.heap.size + 1 + 1, 5, none⟩ (.slice (some ⟨b5, 0, none⟩) n5 n5) (show w.heap.size ≤ w.heap.size + 1 + 1 from by omega)
  replace p0 := cell_set p0 ⟨w.heap.size + 1 + 1, 6, none⟩ (.int .i64 x6) (.inr (by simp))
  replace p1 := cell_set p1 ⟨w.heap.size + 1 + 1, 6, none⟩ (.int .i64 x6) (.inr (by simp))
  replace p2 := cell_set p2 ⟨w.heap.size + 1 + 1, 6, none⟩ (.int .i64 x6) (.inr (by simp))
  replace p3 := cell_set p3 ⟨w.heap.size + 1 + 1, 6, none⟩ (.int .i64 x6) (.inr (by simp))
  replace p4 := cell_set p4 ⟨w.heap.size + 1 + 1, 6, none⟩ (.int .i64 x6) (.inr (by simp))
  replace p5 := cell_set p5 ⟨w.heap.size + 1 + 1, 6, none⟩ (.int .i64 x6) (.inr (by simp))
  replace p6 := World.cell?_setCell_same _ _ (.int .i64 x6) p6
  replace p7 := cell_set p7 ⟨w.heap.size + 1 + 1, 6, none⟩ (.int .i64 x6) (.inr (by simp))
  replace p8 := cell_set p8 ⟨w.heap.size + 1 + 1, 6, none⟩ (.int .i64 x6) (.inr (by simp))
  replace p9 := cell_set p9 ⟨w.heap.size + 1 + 1, 6, none⟩ (.int .i64 x6) (.inr (by simp))
  replace p10 := cell_set p10 ⟨w.heap.size + 1 + 1, 6, none⟩ (.int .i64 x6) (.inr (by simp))
  replace p11 := cell_set p11 ⟨w.heap.size + 1 + 1, 6, none⟩ (.int .i64 x6) (.inr (by simp))
  replace r0 := cell_set r0 ⟨w.heap.size + 1 + 1, 6, none⟩ (.int .i64 x6) (.inl (show w.heap.size + 1 + 1 ≠ w.heap.size + 1 from by omega))
  replace r1 := cell_set r1 ⟨w.heap.size + 1 + 1, 6, none⟩ (.int .i64 x6) (.inl (show w.heap.size + 1 + 1 ≠ w.heap.size + 1 from by omega))
  replace r2 := cell_set r2 ⟨w.heap.size + 1 + 1, 6, none⟩ (.int .i64 x6) (.inl (show w.heap.size + 1 + 1 ≠ w.heap.size + 1 from by omega))
  replace r3 := cell_set r3 ⟨w.heap.size + 1 + 1, 6, none⟩ (.int .i64 x6) (.inl (show w.heap.size + 1 + 1 ≠ w.heap.size + 1 from by omega))
  replace r4 := cell_set r4 ⟨w.heap.size + 1 + 1, 6, none⟩ (.int .i64 x6) (.inl (show w.heap.size + 1 + 1 ≠ w.heap.size + 1 from by omega))
  replace r5 := cell_set r5 ⟨w.heap.size + 1 + 1, 6, none⟩ (.int .i64 x6) (.inl (show w.heap.size + 1 + 1 ≠ w.heap.size + 1 from by omega))
  replace r6 := cell_set r6 ⟨w.heap.size + 1 + 1, 6, none⟩ (.int .i64 x6) (.inl (show w.heap.size + 1 + 1 ≠ w.heap.size + 1 from by omega))
  replace r7 := cell_set r7 ⟨w.heap.size + 1 + 1, 6, none⟩ (.int .i64 x6) (.inl (show w.heap.size + 1 + 1 ≠ w.heap.size + 1 from by omega))
  replace r8 := cell_set r8 ⟨w.heap.size + 1 + 1, 6, none⟩ (.int .i64 x6) (.inl (show w.heap.size + 1 + 1 ≠ w.heap.size + 1 from by omega))
  replace r9 := cell_set r9 ⟨w.heap.size + 1 + 1, 6, none⟩ (.int .i64 x6) (.inl (show w.heap.size + 1 + 1 ≠ w.heap.size + 1 from by omega))
  replace r10 := cell_set r10 ⟨w.heap.size + 1 + 1, 6, none⟩ (.int .i64 x6) (.inl (show w.heap.size + 1 + 1 ≠ w.heap.size + 1 from by omega))
  replace r11 := cell_set r11 ⟨w.heap.size + 1 + 1, 6, none⟩ (.int .i64 x6) (.inl (show w.heap.size + 1 + 1 ≠ w.heap.size + 1 from by omega))
  replace fr := fun q => frozen_set (fr q) ⟨w.heap.size + 1 + 1, 6, none⟩ (.int .i64 x6)
  replace fp := fun q => frozen_set (fp q) ⟨w.heap.size + 1 + 1, 6, none⟩ (.int .i64 x6)
  replace o5 := o5.set ⟨w.heap.size + 1 + 1, 6, none⟩ (.int .i64 x6) (.inl (show w.heap.size + 1 + 1 < _ from by omega))
  replace o11 := o11.set ⟨w.heap.size + 1 + 1, 6, none⟩ (.int .i64 x6) (.inl (show w.heap.size + 1 + 1 < _ from by omega))
  replace M := M.put ⟨w.heap.size + 1 + 1, 6, none⟩ (.int .i64 x6) (show w.heap.size ≤ w.heap.size + 1 + 1 from by omega)
  replace p0 := cell_set p0 ⟨w.heap.size + 1 + 1, 7, none⟩ (.int .i64 x7) (.inr (by simp))
  replace p1 := cell_set p1 ⟨w.heap.size + 1 + 1, 7, none⟩ (.int .i64 x7) (.inr (by simp))
  replace p2 := cell_set p2 ⟨w.heap.size + 1 + 1, 7, none⟩ (.int .i64 x7) (.inr (by simp))
  replace p3 := cell_set p3 ⟨w.heap.size + 1 + 1, 7, none⟩ (.int .i64 x7) (.inr (by simp))
  replace p4 := cell_set p4 ⟨w.heap.size + 1 + 1, 7, none⟩ (.int .i64 x7) (.inr (by simp))
  replace p5 := cell_set p5 ⟨w.heap.size + 1 + 1, 7, none⟩ (.int .i64 x7) (.inr (by simp))
  replace p6 := cell_set p6 ⟨w.heap.size + 1 + 1, 7, none⟩ (.int .i64 x7) (.inr (by simp))
  replace p7 := World.cell?_setCell_same _ _ (.int .i64 x7) p7
  replace p8 := cell_set p8 ⟨w.heap.size + 1 + 1, 7, none⟩ (.int .i64 x7) (.inr (by simp))
  replace p9 := cell_set p9 ⟨w.heap.size + 1 + 1, 7, none⟩ (.int .i64 x7) (.inr (by simp))
  replace p10 := cell_set p10 ⟨w.heap.size + 1 + 1, 7, none⟩ (.int .i64 x7) (.inr (by simp))
  replace p11 := cell_set p11 ⟨w.heap.size + 1 + 1, 7, none⟩ (.int .i64 x7) (.inr (by simp))
  replace r0 := cell_set r0 ⟨w.heap.size + 1 + 1, 7, none⟩ (.int .i64 x7) (.inl (show w.heap.size + 1 + 1 ≠ w.heap.size + 1 from by omega))
  replace r1 := cell_set r1 ⟨w.heap.size + 1 + 1, 7, none⟩ (.int .i64 x7) (.inl (show w.heap.size + 1 + 1 ≠ w.heap.size + 1 from by omega))
  replace r2 := cell_set r2 ⟨w.heap.size + 1 + 1, 7, none⟩ (.int .i64 x7) (.inl (show w.heap.size + 1 + 1 ≠ w.heap.size + 1 from by omega))
  replace r3 := cell_set r3 ⟨w.heap.size + 1 + 1, 7, none⟩ (.int .i64 x7) (.inl (show w.heap.size + 1 + 1 ≠ w.heap.size + 1 from by omega))
  replace r4 := cell_set r4 ⟨w.heap.size + 1 + 1, 7, none⟩ (.int .i64 x7) (.inl (show w.heap.size + 1 + 1 ≠ w.heap.size + 1 from by omega))
  replace r5 := cell_set r5 ⟨w.heap.size + 1 + 1, 7, none⟩ (.int .i64 x7) (.inl (show w.heap.size + 1 + 1 ≠ w.heap.size + 1 from by omega))
  replace r6 := cell_set r6 ⟨w.heap.size + 1 + 1, 7, none⟩ (.int .i64 x7) (.inl (show w.heap.size + 1 + 1 ≠ w.heap.size + 1 from by omega))
  replace r7 := cell_set r7 ⟨w.heap.size + 1 + 1, 7, none⟩ (.int .i64 x7) (.inl (show w.heap.size + 1 + 1 ≠ w.heap.size + 1 from by omega))
  replace r8 := cell_set r8 ⟨w.heap.size + 1 + 1, 7, none⟩ (.int .i64 x7) (.inl (show w.heap.size + 1 + 1 ≠ w.heap.size + 1 from by omega))
  replace r9 := cell_set r9 ⟨w.heap.size + 1 + 1, 7, none⟩ (.int .i64 x7) (.inl (show w.heap.size + 1 + 1 ≠ w.heap.size + 1 from by omega))
  replace r10 := cell_set r10 ⟨w.heap.size + 1 + 1, 7, none⟩ (.int .i64 x7) (.inl (show w.heap.size + 1 + 1 ≠ w.heap.size + 1 from by omega))
  replace r11 := cell_set r11 ⟨w.heap.size + 1 + 1, 7, none⟩ (.int .i64 x7) (.inl (show w.heap.size + 1 + 1 ≠ w.heap.size + 1 from by omega))
  replace fr := fun q => frozen_set (fr q) ⟨w.heap.size + 1 + 1, 7, none⟩ (.int .i64 x7)
  replace fp := fun q => frozen_set (fp q) ⟨w.heap.size + 1 + 1, 7, none⟩ (.int .i64 x7)
  replace o5 := o5.set ⟨w.heap.size + 1 + 1, 7, none⟩ (.int .i64 x7) (.inl (show w.heap.size + 1 + 1 < _ from by omega))
  replace o11 := o11.set ⟨w.heap.size + 1 + 1, 7, none⟩ (.int .i64 x7) (.inl (show w.heap.size + 1 + 1 < _ from by omega))
  replace M := M.put ⟨w.heap.size + 1 + 1, 7, none⟩ (.int .i64 x7) (show w.heap.size ≤ w.heap.size + 1 + 1 from by omega)
  replace p0 := cell_set p0 ⟨w.heap.size + 1 + 1, 8, none⟩ (.int .i64 x8) (.inr (by simp))
  replace p1 := cell_set p1 ⟨w.heap.size + 1 + 1, 8, none⟩ (.int .i64 x8) (.inr (by simp))
  replace p2 := cell_set p2 ⟨w.heap.size + 1 + 1, 8, none⟩ (.int .i64 x8) (.inr (by simp))
  replace p3 := cell_set p3 ⟨w.heap.size + 1 + 1, 8, none⟩ (.int .i64 x8) (.inr (by simp))
  replace p4 := cell_set p4 ⟨w.heap.size + 1 + 1, 8, none⟩ (.int .i64 x8) (.inr (by simp))
  replace p5 := cell_set p5 ⟨w.heap.size + 1 + 1, 8, none⟩ (.int .i64 x8) (.inr (by simp))
  replace p6 := cell_set p6 ⟨w.heap.size + 1 + 1, 8, none⟩ (.int .i64 x8) (.inr (by simp))
  replace p7 := cell_set p7 ⟨w.heap.size + 1 + 1, 8, none⟩ (.int .i64 x8) (.inr (by simp))
  replace p8 := World.cell?_setCell_same _ _ (.int .i64 x8) p8
  replace p9 := cell_set p9 ⟨w.heap.size + 1 + 1, 8, none⟩ (.int .i64 x8) (.inr (by simp))
  replace p10 := cell_set p10 ⟨w.heap.size + 1 + 1, 8, none⟩ (.int .i64 x8) (.inr (by simp))
  replace p11 := cell_set p11 ⟨w.heap.size + 1 + 1, 8, none⟩ (.int .i64 x8) (.inr (by simp))
  replace r0 := cell_set r0 ⟨w.heap.size + 1 + 1, 8, none⟩ (.int .i64 x8) (.inl (show w.heap.size + 1 + 1 ≠ w.heap.size + 1 from by omega))
  replace r1 := cell_set r1 ⟨w.heap.size + 1 + 1, 8, none⟩ (.int .i64 x8) (.inl (show w.heap.size + 1 + 1 ≠ w.heap.size + 1 from by omega))
  replace r2 := cell_set r2 ⟨w.heap.size + 1 + 1, 8, none⟩ (.int .i64 x8) (.inl (show w.heap.size + 1 + 1 ≠ w.heap.size + 1 from by omega))
  replace r3 := cell_set r3 ⟨w.heap.size + 1 + 1, 8, none⟩ (.int .i64 x8) (.inl (show w.heap.size + 1 + 1 ≠ w.heap.size + 1 from by omega))
  replace r4 := cell_set r4 ⟨w.heap.size + 1 + 1, 8, none⟩ (.int .i64 x8) (.inl (show w.heap.size + 1 + 1 ≠ w.heap.size + 1 from by omega))
  replace r5 := cell_set r5 ⟨w.heap.size + 1 + 1, 8, none⟩ (.int .i64 x8) (.inl (show w.heap.size + 1 + 1 ≠ w.heap.size + 1 from by omega))
  replace r6 := cell_set r6 ⟨w.heap.size + 1 + 1, 8, none⟩ (.int .i64 x8) (.inl (show w.heap.size + 1 + 1 ≠ w.heap.size + 1 from by omega))
  replace r7 := cell_set r7 ⟨w.heap.size + 1 + 1, 8, none⟩ (.int .i64 x8) (.inl (show w.heap.size + 1 + 1 ≠ w.heap.size + 1 from by omega))
  replace r8 := cell_set r8 ⟨w.heap.size + 1 + 1, 8, none⟩ (.int .i64 x8) (.inl (show w.heap.size + 1 + 1 ≠ w.heap.size + 1 from by omega))
  replace r9 := cell_set r9 ⟨w.heap.size + 1 + 1, 8, none⟩ (.int .i64 x8) (.inl (show w.heap.size + 1 + 1 ≠ w.heap.size + 1 from by omega))
  replace r10 := cell_set r10 ⟨w.heap.size + 1 + 1, 8, none⟩ (.int .i64 x8) (.inl (show w.heap.size + 1 + 1 ≠ w.heap.size + 1 from by omega))
  replace r11 := cell_set r11 ⟨w.heap.size + 1 + 1, 8, none⟩ (.int .i64 x8) (.inl (show w.heap.size + 1 + 1 ≠ w.heap.size + 1 from by omega))
  replace fr := fun q => frozen_set (fr q) ⟨w.heap.size + 1 + 1, 8, none⟩ (.int .i64 x8)
  replace fp := fun q => frozen_set (fp q) ⟨w.heap.size + 1 + 1, 8, none⟩ (.int .i64 x8)
  replace o5 := o5.set ⟨w.heap.size + 1 + 1, 8, none⟩ (.int .i64 x8) (.inl (show w.heap.size + 1 + 1 < _ from by omega))
  replace o11 := o11.set ⟨w.heap.size + 1 + 1, 8, none⟩ (.int .i64 x8) (.inl (show w.heap.size + 1 + 1 < _ from by omega))
  replace M := M.put ⟨w.heap.size + 1 + 1, 8, none⟩ (.int .i64 x8) (show w.heap.size ≤ w.heap.size + 1 + 1 from by omega)
  replace p0 := cell_set p0 ⟨w.heap.size + 1 + 1, 9, none⟩ (.int .i64 x9) (.inr (by simp))
  replace p1 := cell_set p1 ⟨w.heap.size + 1 + 1, 9, none⟩ (.int .i64 x9) (.inr (by simp))
  replace p2 := cell_set p2 ⟨w.heap.size + 1 + 1, 9, none⟩ (.int .i64 x9) (.inr (by simp))
  replace p3 := cell_set p3 ⟨w.heap.size + 1 + 1, 9, none⟩ (.int .i64 x9) (.inr (by simp))
  replace p4 := cell_set p4 ⟨w.heap.size + 1 + 1, 9, none⟩ (.int .i64 x9) (.inr (by simp))
  replace p5 := cell_set p5 ⟨w.heap.size + 1 + 1, 9, none⟩ (.int .i64 x9) (.inr (by simp))
  replace p6 := cell_set p6 ⟨w.heap.size + 1 + 1, 9, none⟩ (.int .i64 x9) (.inr (by simp))
  replace p7 := cell_set p7 ⟨w.heap.size + 1 + 1, 9, none⟩ (.int .i64 x9) (.inr (by simp))
  replace p8 := cell_set p8 ⟨w.heap.size + 1 + 1, 9, none⟩ (.int .i64 x9) (.inr (by simp))
  replace p9 := World.cell?_setCell_same _ _ (.int .i64 x9) p9
  replace p10 := cell_set p10 ⟨w.heap.size + 1 + 1, 9, none⟩ (.int .i64 x9) (.inr (by simp))
  replace p11 := cell_set p11 ⟨w.heap.size + 1 + 1, 9, none⟩ (.int .i64 x9) (.inr (by simp))
  replace r0 := cell_set r0 ⟨w.heap.size + 1 + 1, 9, none⟩ (.int .i64 x9) (.inl (show w.heap.size + 1 + 1 ≠ w.heap.size + 1 from by omega))
  replace r1 := cell_set r1 ⟨w.heap.size + 1 + 1, 9, none⟩ (.int .i64 x9) (.inl (show w.heap.size + 1 + 1 ≠ w.heap.size + 1 from by omega))
  replace r2 := cell_set r2 ⟨w.heap.size + 1 + 1, 9, none⟩ (.int .i64 x9) (.inl (show w.heap.size + 1 + 1 ≠ w.heap.size + 1 from by omega))
  replace r3 := cell_set r3 ⟨w.heap.size + 1 + 1, 9, none⟩ (.int .i64 x9) (.inl (show w.heap.size + 1 + 1 ≠ w.heap.size + 1 from by omega))
  replace r4 := cell_set r4 ⟨w.heap.size + 1 + 1, 9, none⟩ (.int .i64 x9) (.inl (show w.heap.size + 1 + 1 ≠ w.heap.size + 1 from by omega))
  replace r5 := cell_set r5 ⟨w.heap.size + 1 + 1, 9, none⟩ (.int .i64 x9) (.inl (show w.heap.size + 1 + 1 ≠ w.heap.size + 1 from by omega))
  replace r6 := cell_set r6 ⟨w.heap.size + 1 + 1, 9, none⟩ (.int .i64 x9) (.inl (show w.heap.size + 1 + 1 ≠ w.heap.size + 1 from by omega))
  replace r7 := cell_set r7 ⟨w.heap.size + 1 + 1, 9, none⟩ (.int .i64 x9) (.inl (show w.heap.size + 1 + 1 ≠ w.heap.size + 1 from by omega))
  replace r8 := cell_set r8 ⟨w.heap.size + 1 + 1, 9, none⟩ (.int .i64 x9) (.inl (show w.heap.size + 1 + 1 ≠ w.heap.size + 1 from by omega))
  replace r9 := cell_set r9 ⟨w.heap.size + 1 + 1, 9, none⟩ (.int .i64 x9) (.inl (show w.heap.size + 1 + 1 ≠ w.heap.size + 1 from by omega))
  replace r10 := cell_set r10 ⟨w.heap.size + 1 + 1, 9, none⟩ (.int .i64 x9) (.inl (show w.heap.size + 1 + 1 ≠ w.heap.size + 1 from by omega))
  replace r11 := cell_set r11 ⟨w.heap.size + 1 + 1, 9, none⟩ (.int .i64 x9) (.inl (show w.heap.size + 1 + 1 ≠ w.heap.size + 1 from by omega))
  replace fr := fun q => frozen_set (fr q) ⟨w.heap.size + 1 + 1, 9, none⟩ (.int .i64 x9)
  replace fp := fun q => frozen_set (fp q) ⟨w.heap.size + 1 + 1, 9, none⟩ (.int .i64 x9)
  replace o5 := o5.set ⟨w.heap.size + 1 + 1, 9, none⟩ (.int .i64 x9) (.inl (show w.heap.size + 1 + 1 < _ from by omega))
  replace o11 := o11.set ⟨w.heap.size + 1 + 1, 9, none⟩ (.int .i64 x9) (.inl (show w.heap.size + 1 + 1 < _ from by omega))
  replace M := M.put ⟨w.heap.size + 1 + 1, 9, none⟩ (.int .i64 x9) (show w.heap.size ≤ w.heap.size + 1 + 1 from by omega)
  replace p0 := cell_set p0 ⟨w.heap.size + 1 + 1, 10, none⟩ (.int .i64 x10) (.inr (by simp))
  replace p1 := cell_set p1 ⟨w.heap.size + 1 + 1, 10, none⟩ (.int .i64 x10) (.inr (by simp))
  replace p2 := cell_set p2 ⟨w.heap.size + 1 + 1, 10, none⟩ (.int .i64 x10) (.inr (by simp))
  replace p3 := cell_set p3 ⟨w.heap.size + 1 + 1, 10, none⟩ (.int .i64 x10) (.inr (by simp))
  replace p4 := cell_set p4 ⟨w.heap.size + 1 + 1, 10, none⟩ (.int .i64 x10) (.inr (by simp))
  replace p5 := cell_set p5 ⟨w.heap.size + 1 + 1, 10, none⟩ (.int .i64 x10) (.inr (by simp))
  replace p6 := cell_set p6 ⟨w.heap.size + 1 + 1, 10, none⟩ (.int .i64 x10) (.inr (by simp))
  replace p7 := cell_set p7 ⟨w.heap.size + 1 + 1, 10, none⟩ (.int .i64 x10) (.inr (by simp))
  replace p8 := cell_set p8 ⟨w.heap.size + 1 + 1, 10, none⟩ (.int .i64 x10) (.inr (by simp))
  replace p9 := cell_set p9 ⟨w.heap.size + 1 + 1, 10, none⟩ (.int .i64 x10) (.inr (by simp))
  replace p10 := World.cell?_setCell_same _ _ (.int .i64 x10) p10
  replace p11 := cell_set p11 ⟨w.heap.size + 1 + 1, 10, none⟩ (.int .i64 x10) (.inr (by simp))
  replace r0 := cell_set r0 ⟨w.heap.size + 1 + 1, 10, none⟩ (.int .i64 x10) (.inl (show w.heap.size + 1 + 1 ≠ w.heap.size + 1 from by omega))
  replace r1 := cell_set r1 ⟨w.heap.size + 1 + 1, 10, none⟩ (.int .i64 x10) (.inl (show w.heap.size + 1 + 1 ≠ w.heap.size + 1 from by omega))
  replace r2 := cell_set r2 ⟨w.heap.size + 1 + 1, 10, none⟩ (.int .i64 x10) (.inl (show w.heap.size + 1 + 1 ≠ w.heap.size + 1 from by omega))
  replace r3 := cell_set r3 ⟨w.heap.size + 1 + 1, 10, none⟩ (.int .i64 x10) (.inl (show w.heap.size + 1 + 1 ≠ w.heap.size + 1 from by omega))
  replace r4 := cell_set r4 ⟨w.heap.size + 1 + 1, 10, none⟩ (.int .i64 x10) (.inl (show w.heap.size + 1 + 1 ≠ w.heap.size + 1 from by omega))
  replace r5 := cell_set r5 ⟨w.heap.size + 1 + 1, 10, none⟩ (.int .i64 x10) (.inl (show w.heap.size + 1 + 1 ≠ w.heap.size + 1 from by omega))
  replace r6 := cell_set r6 ⟨w.heap.size + 1 + 1, 10, none⟩ (.int .i64 x10) (.inl (show w.heap.size + 1 + 1 ≠ w.heap.size + 1 from by omega))
  replace r7 := cell_set r7 ⟨w.heap.size + 1 + 1, 10, none⟩ (.int .i64 x10) (.inl (show w.heap.size + 1 + 1 ≠ w.heap.size + 1 from by omega))
  replace r8 := cell_set r8 ⟨w.heap.size + 1 + 1, 10, none⟩ (.int .i64 x10) (.inl (show w.heap.size + 1 + 1 ≠ w.heap.size + 1 from by omega))
  replace r9 := cell_set r9 ⟨w.heap.size + 1 + 1, 10, none⟩ (.int .i64 x10) (.inl (show w.heap.size + 1 + 1 ≠ w.heap.size + 1 from by omega))
  replace r10 := cell_set r10 ⟨w.heap.size + 1 + 1, 10, none⟩ (.int .i64 x10) (.inl (show w.heap.size + 1 + 1 ≠ w.heap.size + 1 from by omega))
  replace r11 := cell_set r11 ⟨w.heap.size + 1 + 1, 10, none⟩ (.int .i64 x10) (.inl (show w.heap.size + 1 + 1 ≠ w.heap.size + 1 from by omega))
  replace fr := fun q => frozen_set (fr q) ⟨w.heap.size + 1 + 1, 10, none⟩ (.int .i64 x10)
  replace fp := fun q => frozen_set (fp q) ⟨w.heap.size + 1 + 1, 10, none⟩ (.int .i64 x10)
  replace o5 := o5.set ⟨w.heap.size + 1 + 1, 10, none⟩ (.int .i64 x10) (.inl (show w.heap.size + 1 + 1 < _ from by omega))
  replace o11 := o11.set ⟨w.heap.size + 1 + 1, 10, none⟩ (.int .i64 x10) (.inl (show w.heap.size + 1 + 1 < _ from by omega))
  replace M := M.put ⟨w.heap.size + 1 + 1, 10, none⟩ (.int .i64 x10) (show w.heap.size ≤ w.heap.size + 1 + 1 from by omega)
  replace p0 := cell_set p0 ⟨w.heap.size + 1 + 1, 11, none⟩ (.slice (some ⟨b11, 0, none⟩) n11 n11) (.inr (by simp))
  replace p1 := cell_set p1 ⟨w.heap.size + 1 + 1, 11, none⟩ (.slice (some ⟨b11, 0, none⟩) n11 n11) (.inr (by simp))
  replace p2 := cell_set p2 ⟨w.heap.size + 1 + 1, 11, none⟩ (.slice (some ⟨b11, 0, none⟩) n11 n11) (.inr (by simp))
  replace p3 := cell_set p3 ⟨w.heap.size + 1 + 1, 11, none⟩ (.slice (some ⟨b11, 0, none⟩) n11 n11) (.inr (by simp))
  replace p4 := cell_set p4 ⟨w.heap.size + 1 + 1, 11, none⟩ (.slice (some ⟨b11, 0, none⟩) n11 n11) (.inr (by simp))
  replace p5 := cell_set p5 ⟨w.heap.size + 1 + 1, 11, none⟩ (.slice (some ⟨b11, 0, none⟩) n11 n11) (.inr (by simp))
  replace p6 := cell_set p6 ⟨w.heap.size + 1 + 1, 11, none⟩ (.slice (some ⟨b11, 0, none⟩) n11 n11) (.inr (by simp))
  replace p7 := cell_set p7 ⟨w.heap.size + 1 + 1, 11, none⟩ (.slice (some ⟨b11, 0, none⟩) n11 n11) (.inr (by simp))
  replace p8 := cell_set p8 ⟨w.heap.size + 1 + 1, 11, none⟩ (.slice (some ⟨b11, 0, none⟩) n11 n11) (.inr (by simp))
  replace p9 := cell_set p9 ⟨w.heap.size + 1 + 1, 11, none⟩ (.slice (some ⟨b11, 0, none⟩) n11 n11) (.inr (by simp))
  replace p10 := cell_set p10 ⟨w.heap.size + 1 + 1, 11, none⟩ (.slice (some ⟨b11, 0, none⟩) n11 n11) (.inr (by simp))
  replace p11 := World.cell?_setCell_same _ _ (.slice (some ⟨b11, 0, none⟩) n11 n11) p11
  replace r0 := cell_set r0 ⟨w.heap.size + 1 + 1, 11, none⟩ (.slice (some ⟨b11, 0, none⟩) n11 n11) (.inl (show w.heap.size + 1 + 1 ≠ w.heap.size + 1 from by omega))
  replace r1 := cell_set r1 ⟨w.heap.size + 1 + 1, 11, none⟩ (.slice (some ⟨b11, 0, none⟩) n11 n11) (.inl (show w.heap.size + 1 + 1 ≠ w.heap.size + 1 from by omega))
  replace r2 := cell_set r2 ⟨w.heap.size + 1 + 1, 11, none⟩ (.slice (some ⟨b11, 0, none⟩) n11 n11) (.inl (show w.heap.size + 1 + 1 ≠ w.heap.size + 1 from by omega))
  replace r3 := cell_set r3 ⟨w.heap.size + 1 + 1, 11, none⟩ (.slice (some ⟨b11, 0, none⟩) n11 n11) (.inl (show w.heap.size + 1 + 1 ≠ w.heap.size + 1 from by omega))
  replace r4 := cell_set r4 ⟨w.heap.size + 1 + 1, 11, none⟩ (.slice (some ⟨b11, 0, none⟩) n11 n11) (.inl (show w.heap.size + 1 + 1 ≠ w.heap.size + 1 from by omega))
  replace r5 := cell_set r5 ⟨w.heap.size + 1 + 1, 11, none⟩ (.slice (some ⟨b11, 0, none⟩) n11 n11) (.inl (show w.heap.size + 1 + 1 ≠ w.heap.size + 1 from by omega))
  replace r6 := cell_set r6 ⟨w.heap.size + 1 + 1, 11, none⟩ (.slice (some ⟨b11, 0, none⟩) n11 n11) (.inl (show w.heap.size + 1 + 1 ≠ w.heap.size + 1 from by omega))
  replace r7 := cell_set r7 ⟨w.heap.size + 1 + 1, 11, none⟩ (.slice (some ⟨b11, 0, none⟩) n11 n11) (.inl (show w.heap.size + 1 + 1 ≠ w.heap.size + 1 from by omega))
  replace r8 := cell_set r8 ⟨w.heap.size + 1 + 1, 11, none⟩ (.slice (some ⟨b11, 0, none⟩) n11 n11) (.inl (show w.heap.size + 1 + 1 ≠ w.heap.size + 1 from by omega))
  replace r9 := cell_set r9 ⟨w.heap.size + 1 + 1, 11, none⟩ (.slice (some ⟨b11, 0, none⟩) n11 n11) (.inl (show w.heap.size + 1 + 1 ≠ w.heap.size + 1 from by omega))
  replace r10 := cell_set r10 ⟨w.heap.size + 1 + 1, 11, none⟩ (.slice (some ⟨b11, 0, none⟩) n11 n11) (.inl (show w.heap.size + 1 + 1 ≠ w.heap.size + 1 from by omega))
  replace r11 := cell_set r11 ⟨w.heap.size + 1 + 1, 11, none⟩ (.slice (some ⟨b11, 0, none⟩) n11 n11) (.inl (show w.heap.size + 1 + 1 ≠ w.heap.size + 1 from by omega))
  replace fr := fun q => frozen_set (fr q) ⟨w.heap.size + 1 + 1, 11, none⟩ (.slice (some ⟨b11, 0, none⟩) n11 n11)
  replace fp := fun q => frozen_set (fp q) ⟨w.heap.size + 1 + 1, 11, none⟩ (.slice (some ⟨b11, 0, none⟩) n11 n11)
  replace o5 := o5.set ⟨w.heap.size + 1 + 1, 11, none⟩ (.slice (some ⟨b11, 0, none⟩) n11 n11) (.inl (show w.heap.size + 1 + 1 < _ from by omega))
  replace o11 := o11.set ⟨w.heap.size + 1 + 1, 11, none⟩ (.slice (some ⟨b11, 0, none⟩) n11 n11) (.inl (show w.heap.size + 1 + 1 < _ from by omega))
  replace M := M.put ⟨w.heap.size + 1 + 1, 11, none⟩ (.slice (some ⟨b11, 0, none⟩) n11 n11) (show w.heap.size ≤ w.heap.size + 1 + 1 from by omega)
  have zu1 : ((((((((((w1.setCell ⟨w.heap.size + 1 + 1, 2, none⟩ (.int .i64 x2)).setCell ⟨w.heap.size + 1 + 1, 3, none⟩ (.int .i64 x3)).setCell ⟨w.heap.size + 1 + 1, 4, none⟩ (.int .i64 x4)).setCell ⟨w.heap.size + 1 + 1, 5, none⟩ (.slice (some ⟨b5, 0, none⟩) n5 n5)).setCell ⟨w.heap.size + 1 + 1, 6, none⟩ (.int .i64 x6)).setCell ⟨w.heap.size + 1 + 1, 7, none⟩ (.int .i64 x7)).setCell ⟨w.heap.size + 1 + 1, 8, none⟩ (.int .i64 x8)).setCell ⟨w.heap.size + 1 + 1, 9, none⟩ (.int .i64 x9)).setCell ⟨w.heap.size + 1 + 1, 10, none⟩ (.int .i64 x10)).setCell ⟨w.heap.size + 1 + 1, 11, none⟩ (.slice (some ⟨b11, 0, none⟩) n11 n11)).heap.size = w1.heap.size := by simp [World.setCell]
  generalize ((((((((((w1.setCell ⟨w.heap.size + 1 + 1, 2, none⟩ (.int .i64 x2)).setCell ⟨w.heap.size + 1 + 1, 3, none⟩ (.int .i64 x3)).setCell ⟨w.heap.size + 1 + 1, 4, none⟩ (.int .i64 x4)).setCell ⟨w.heap.size + 1 + 1, 5, none⟩ (.slice (some ⟨b5, 0, none⟩) n5 n5)).setCell ⟨w.heap.size + 1 + 1, 6, none⟩ (.int .i64 x6)).setCell ⟨w.heap.size + 1 + 1, 7, none⟩ (.int .i64 x7)).setCell ⟨w.heap.size + 1 + 1, 8, none⟩ (.int .i64 x8)).setCell ⟨w.heap.size + 1 + 1, 9, none⟩ (.int .i64 x9)).setCell ⟨w.heap.size + 1 + 1, 10, none⟩ (.int .i64 x10)).setCell ⟨w.heap.size + 1 + 1, 11, none⟩ (.slice (some ⟨b11, 0, none⟩) n11 n11)) = u1 at *
  go_wp2_with fail
  replace r0 := World.cell?_setCell_same _ _ (.int .i64 x0) r0
  replace r1 := cell_set r1 ⟨w.heap.size + 1, 0, none⟩ (.int .i64 x0) (.inr (by simp))
  replace r2 := cell_set r2 ⟨w.heap.size + 1, 0, none⟩ (.int .i64 x0) (.inr (by simp))
  replace r3 := cell_set r3 ⟨w.heap.size + 1, 0, none⟩ (.int .i64 x0) (.inr (by simp))
  replace r4 := cell_set r4 ⟨w.heap.size + 1, 0, none⟩ (.int .i64 x0) (.inr (by simp))
  replace r5 := cell_set r5 ⟨w.heap.size + 1, 0, none⟩ (.int .i64 x0) (.inr (by simp))
  replace r6 := cell_set r6 ⟨w.heap.size + 1, 0, none⟩ (.int .i64 x0) (.inr (by simp))
  replace r7 := cell_set r7 ⟨w.heap.size + 1, 0, none⟩ (.int .i64 x0) (.inr (by simp))
  replace r8 := cell_set r8 ⟨w.heap.size + 1, 0, none⟩ (.int .i64 x0) (.inr (by simp))
  replace r9 := cell_set r9 ⟨w.heap.size + 1, 0, none⟩ (.int .i64 x0) (.inr (by simp))
  replace r10 := cell_set r10 ⟨w.heap.size + 1, 0, none⟩ (.int .i64 x0) (.inr (by simp))
  replace r11 := cell_set r11 ⟨w.heap.size + 1, 0, none⟩ (.int .i64 x0) (.inr (by simp))
  replace o5 := o5.set ⟨w.heap.size + 1, 0, none⟩ (.int .i64 x0) (.inl (show w.heap.size + 1 < _ from by omega))
  replace o11 := o11.set ⟨w.heap.size + 1, 0, none⟩ (.int .i64 x0) (.inl (show w.heap.size + 1 < _ from by omega))
  replace M := M.put ⟨w.heap.size + 1, 0, none⟩ (.int .i64 x0) (show w.heap.size ≤ w.heap.size + 1 from by omega)
  replace r0 := cell_set r0 ⟨w.heap.size + 1, 1, none⟩ (.int .i64 x1) (.inr (by simp))
  replace r1 := World.cell?_setCell_same _ _ (.int .i64 x1) r1
  replace r2 := cell_set r2 ⟨w.heap.size + 1, 1, none⟩ (.int .i64 x1) (.inr (by simp))
  replace r3 := cell_set r3 ⟨w.heap.size + 1, 1, none⟩ (.int .i64 x1) (.inr (by simp))
  replace r4 := cell_set r4 ⟨w.heap.size + 1, 1, none⟩ (.int .i64 x1) (.inr (by simp))
  replace r5 := cell_set r5 ⟨w.heap.size + 1, 1, none⟩ (.int .i64 x1) (.inr (by simp))
  replace r6 := cell_set r6 ⟨w.heap.size + 1, 1, none⟩ (.int .i64 x1) (.inr (by simp))
  replace r7 := cell_set r7 ⟨w.heap.size + 1, 1, none⟩ (.int .i64 x1) (.inr (by simp))
  replace r8 := cell_set r8 ⟨w.heap.size + 1, 1, none⟩ (.int .i64 x1) (.inr (by simp))
  replace r9 := cell_set r9 ⟨w.heap.size + 1, 1, none⟩ (.int .i64 x1) (.inr (by simp))
  replace r10 := cell_set r10 ⟨w.heap.size + 1, 1, none⟩ (.int .i64 x1) (.inr (by simp))
  replace r11 := cell_set r11 ⟨w.heap.size + 1, 1, none⟩ (.int .i64 x1) (.inr (by simp))
  replace o5 := o5.set ⟨w.heap.size + 1, 1, none⟩ (.int .i64 x1) (.inl (show w.heap.size + 1 < _ from by omega))
  replace o11 := o11.set ⟨w.heap.size + 1, 1, none⟩ (.int .i64 x1) (.inl (show w.heap.size + 1 < _ from by omega))
  replace M := M.put ⟨w.heap.size + 1, 1, none⟩ (.int .i64 x1) (show w.heap.size ≤ w.heap.size + 1 from by omega)
  replace r0 := cell_set r0 ⟨w.heap.size + 1, 2, none⟩ (.int .i64 x2) (.inr (by simp))
  replace r1 := cell_set r1 ⟨w.heap.size + 1, 2, none⟩ (.int .i64 x2) (.inr (by simp))
  replace r2 := World.cell?_setCell_same _ _ (.int .i64 x2) r2
  replace r3 := cell_set r3 ⟨w.heap.size + 1, 2, none⟩ (.int .i64 x2) (.inr (by simp))
  replace r4 := cell_set r4 ⟨w.heap.size + 1, 2, none⟩ (.int .i64 x2) (.inr (by simp))
  replace r5 := cell_set r5 ⟨w.heap.size + 1, 2, none⟩ (.int .i64 x2) (.inr (by simp))
  replace r6 := cell_set r6 ⟨w.heap.size + 1, 2, none⟩ (.int .i64 x2) (.inr (by simp))
  replace r7 := cell_set r7 ⟨w.heap.size + 1, 2, none⟩ (.int .i64 x2) (.inr (by simp))
  replace r8 := cell_set r8 ⟨w.heap.size + 1, 2, none⟩ (.int .i64 x2) (.inr (by simp))
  replace r9 := cell_set r9 ⟨w.heap.size + 1, 2, none⟩ (.int .i64 x2) (.inr (by simp))
  replace r10 := cell_set r10 ⟨w.heap.size + 1, 2, none⟩ (.int .i64 x2) (.inr (by simp))
  replace r11 := cell_set r11 ⟨w.heap.size + 1, 2, none⟩ (.int .i64 x2) (.inr (by simp))
  replace o5 := o5.set ⟨w.heap.size + 1, 2, none⟩ (.int .i64 x2) (.inl (show w.heap.size + 1 < _ from by omega))
  replace o11 := o11.set ⟨w.heap.size + 1, 2, none⟩ (.int .i64 x2) (.inl (show w.heap.size + 1 < _ from by omega))
  replace M := M.put ⟨w.heap.size + 1, 2, none⟩ (.int .i64 x2) (show w.heap.size ≤ w.heap.size + 1 from by omega)
  replace r0 := cell_set r0 ⟨w.heap.size + 1, 3, none⟩ (.int .i64 x3) (.inr (by simp))
  replace r1 := cell_set r1 ⟨w.heap.size + 1, 3, none⟩ (.int .i64 x3) (.inr (by simp))
  replace r2 := cell_set r2 ⟨w.heap.size + 1, 3, none⟩ (.int .i64 x3) (.inr (by simp))
  replace r3 := World.cell?_setCell_same _ _ (.int .i64 x3) r3
  replace r4 := cell_set r4 ⟨w.heap.size + 1, 3, none⟩ (.int .i64 x3) (.inr (by simp))
  replace r5 := cell_set r5 ⟨w.heap.size + 1, 3, none⟩ (.int .i64 x3) (.inr (by simp))
  replace r6 := cell_set r6 ⟨w.heap.size + 1, 3, none⟩ (.int .i64 x3) (.inr (by simp))
  replace r7 := cell_set r7 ⟨w.heap.size + 1, 3, none⟩ (.int .i64 x3) (.inr (by simp))
  replace r8 := cell_set r8 ⟨w.heap.size + 1, 3, none⟩ (.int .i64 x3) (.inr (by simp))
  replace r9 := cell_set r9 ⟨w.heap.size + 1, 3, none⟩ (.int .i64 x3) (.inr (by simp))
  replace r10 := cell_set r10 ⟨w.heap.size + 1, 3, none⟩ (.int .i64 x3) (.inr (by simp))
  replace r11 := cell_set r11 ⟨w.heap.size + 1, 3, none⟩ (.int .i64 x3) (.inr (by simp))
  replace o5 := o5.set ⟨w.heap.size + 1, 3, none⟩ (.int .i64 x3) (.inl (show w.heap.size + 1 < _ from by omega))
  replace o11 := o11.set ⟨w.heap.size + 1, 3, none⟩ (.int .i64 x3) (.inl (show w.heap.size + 1 < _ from by omega))
  replace M := M.put ⟨w.heap.size + 1, 3, none⟩ (.int .i64 x3) (show w.heap.size ≤ w.heap.size + 1 from by omega)
  replace r0 := cell_set r0 ⟨w.heap.size + 1, 4, none⟩ (.int .i64 x4) (.inr (by simp))
  replace r1 := cell_set r1 ⟨w.heap.size + 1, 4, none⟩ (.int .i64 x4) (.inr (by simp))
  replace r2 := cell_set r2 ⟨w.heap.size + 1, 4, none⟩ (.int .i64 x4) (.inr (by simp))
  replace r3 := cell_set r3 ⟨w.heap.size + 1, 4, none⟩ (.int .i64 x4) (.inr (by simp))
  replace r4 := World.cell?_setCell_same _ _ (.int .i64 x4) r4
  replace r5 := cell_set r5 ⟨w.heap.size + 1, 4, none⟩ (.int .i64 x4) (.inr (by simp))
  replace r6 := cell_set r6 ⟨w.heap.size + 1, 4, none⟩ (.int .i64 x4) (.inr (by simp))
  replace r7 := cell_set r7 ⟨w.heap.size + 1, 4, none⟩ (.int .i64 x4) (.inr (by simp))
  replace r8 := cell_set r8 ⟨w.heap.size + 1, 4, none⟩ (.int .i64 x4) (.inr (by simp))
  replace r9 := cell_set r9 ⟨w.heap.size + 1, 4, none⟩ (.int .i64 x4) (.inr (by simp))
  replace r10 := cell_set r10 ⟨w.heap.size + 1, 4, none⟩ (.int .i64 x4) (.inr (by simp))
  replace r11 := cell_set r11 ⟨w.heap.size + 1, 4, none⟩ (.int .i64 x4) (.inr (by simp))
  replace o5 := o5.set ⟨w.heap.size + 1, 4, none⟩ (.int .i64 x4) (.inl (show w.heap.size + 1 < _ from by omega))
  replace o11 := o11.set ⟨w.heap.size + 1, 4, none⟩ (.int .i64 x4) (.inl (show w.heap.size + 1 < _ from by omega))
  replace M := M.put ⟨w.heap.size + 1, 4, none⟩ (.int .i64 x4) (show w.heap.size ≤ w.heap.size + 1 from by omega)
  replace r0 := cell_set r0 ⟨w.heap.size + 1, 5, none⟩ (.slice (some ⟨b5, 0, none⟩) n5 n5) (.inr (by simp))
  replace r1 := cell_set r1 ⟨w.heap.size + 1, 5, none⟩ (.slice (some ⟨b5, 0, none⟩) n5 n5) (.inr (by simp))
  replace r2 := cell_set r2 ⟨w.heap.size + 1, 5, none⟩ (.slice (some ⟨b5, 0, none⟩) n5 n5) (.inr (by simp))
  replace r3 := cell_set r3 ⟨w.heap.size + 1, 5, none⟩ (.slice (some ⟨b5, 0, none⟩) n5 n5) (.inr (by simp))
  replace r4 := cell_set r4 ⟨w.heap.size + 1, 5, none⟩ (.slice (some ⟨b5, 0, none⟩) n5 n5) (.inr (by simp))
  replace r5 := World.cell?_setCell_same _ _ (.slice (some ⟨b5, 0, none⟩) n5 n5) r5
  replace r6 := cell_set r6 ⟨w.heap.size + 1, 5, none⟩ (.slice (some ⟨b5, 0, none⟩) n5 n5) (.inr (by simp))
  replace r7 := cell_set r7 ⟨w.heap.size + 1, 5, none⟩ (.slice (some ⟨b5, 0, none⟩) n5 n5) (.inr (by simp))
  replace r8 := cell_set r8 ⟨w.heap.size + 1, 5, none⟩ (.slice (some ⟨b5, 0, none⟩) n5 n5) (.inr (by simp))
  replace r9 := cell_set r9 ⟨w.heap.size + 1, 5, none⟩ (.slice (some ⟨b5, 0, none⟩) n5 n5) (.inr (by simp))
  replace r10 := cell_set r10 ⟨w.heap.size + 1, 5, none⟩ (.slice (some ⟨b5, 0, none⟩) n5 n5) (.inr (by simp))
  replace r11 := cell_set r11 ⟨w.heap.size + 1, 5, none⟩ (.slice (some ⟨b5, 0, none⟩) n5 n5) (.inr (by simp))
  replace o5 := o5.set ⟨w.heap.size + 1, 5, none⟩ (.slice (some ⟨b5, 0, none⟩) n5 n5) (.inl (show w.heap.size + 1 < _ from by omega))
  replace o11 := o11.set ⟨w.heap.size + 1, 5, none⟩ (.slice (some ⟨b5, 0, none⟩) n5 n5) (.inl (show w.heap.size + 1 < _ from by omega))
  replace M := M.put ⟨w.heap.size + 1, 5, none⟩ (.slice (some ⟨b5, 0, none⟩) n5 n5) (show w.heap.size ≤ w.heap.size + 1 from by omega)
  replace r0 := cell_set r0 ⟨w.heap.size + 1, 6, none⟩ (.int .i64 x6) (.inr (by simp))
  replace r1 := cell_set r1 ⟨w.heap.size + 1, 6, none⟩ (.int .i64 x6) (.inr (by simp))
  replace r2 := cell_set r2 ⟨w.heap.size + 1, 6, none⟩ (.int .i64 x6) (.inr (by simp))
  replace r3 := cell_set r3 ⟨w.heap.size + 1, 6, none⟩ (.int .i64 x6) (.inr (by simp))
  replace r4 := cell_set r4 ⟨w.heap.size + 1, 6, none⟩ (.int .i64 x6) (.inr (by simp))
  replace r5 := cell_set r5 ⟨w.heap.size + 1, 6, none⟩ (.int .i64 x6) (.inr (by simp))
  replace r6 := World.cell?_setCell_same _ _ (.int .i64 x6) r6
  replace r7 := cell_set r7 ⟨w.heap.size + 1, 6, none⟩ (.int .i64 x6) (.inr (by simp))
  replace r8 := cell_set r8 ⟨w.heap.size + 1, 6, none⟩ (.int .i64 x6) (.inr (by simp))
  replace r9 := cell_set r9 ⟨w.heap.size + 1, 6, none⟩ (.int .i64 x6) (.inr (by simp))
  replace r10 := cell_set r10 ⟨w.heap.size + 1, 6, none⟩ (.int .i64 x6) (.inr (by simp))
  replace r11 := cell_set r11 ⟨w.heap.size + 1, 6, none⟩ (.int .i64 x6) (.inr (by simp))
  replace o5 := o5.set ⟨w.heap.size + 1, 6, none⟩ (.int .i64 x6) (.inl (show w.heap.size + 1 < _ from by omega))
  replace o11 := o11.set ⟨w.heap.size + 1, 6, none⟩ (.int .i64 x6) (.inl (show w.heap.size + 1 < _ from by omega))
  replace M := M.put ⟨w.heap.size + 1, 6, none⟩ (.int .i64 x6) (show w.heap.size ≤ w.heap.size + 1 from by omega)
  replace r0 := cell_set r0 ⟨w.heap.size + 1, 7, none⟩ (.int .i64 x7) (.inr (by simp))
  replace r1 := cell_set r1 ⟨w.heap.size + 1, 7, none⟩ (.int .i64 x7) (.inr (by simp))
  replace r2 := cell_set r2 ⟨w.heap.size + 1, 7, none⟩ (.int .i64 x7) (.inr (by simp))
  replace r3 := cell_set r3 ⟨w.heap.size + 1, 7, none⟩ (.int .i64 x7) (.inr (by simp))
  replace r4 := cell_set r4 ⟨w.heap.size + 1, 7, none⟩ (.int .i64 x7) (.inr (by simp))
  replace r5 := cell_set r5 ⟨w.heap.size + 1, 7, none⟩ (.int .i64 x7) (.inr (by simp))
  replace r6 := cell_set r6 ⟨w.heap.size + 1, 7, none⟩ (.int .i64 x7) (.inr (by simp))
  replace r7 := World.cell?_setCell_same _ _ (.int .i64 x7) r7
  replace r8 := cell_set r8 ⟨w.heap.size + 1, 7, none⟩ (.int .i64 x7) (.inr (by simp))
  replace r9 := cell_set r9 ⟨w.heap.size + 1, 7, none⟩ (.int .i64 x7) (.inr (by simp))
  replace r10 := cell_set r10 ⟨w.heap.size + 1, 7, none⟩ (.int .i64 x7) (.inr (by simp))
  replace r11 := cell_set r11 ⟨w.heap.size + 1, 7, none⟩ (.int .i64 x7) (.inr (by simp))
  replace o5 := o5.set ⟨w.heap.size + 1, 7, none⟩ (.int .i64 x7) (.inl (show w.heap.size + 1 < _ from by omega))
  replace o11 := o11.set ⟨w.heap.size + 1, 7, none⟩ (.int .i64 x7) (.inl (show w.heap.size + 1 < _ from by omega))
  replace M := M.put ⟨w.heap.size + 1, 7, none⟩ (.int .i64 x7) (show w.heap.size ≤ w.heap.size + 1 from by omega)
  replace r0 := cell_set r0 ⟨w.heap.size + 1, 8, none⟩ (.int .i64 x8) (.inr (by simp))
  replace r1 := cell_set r1 ⟨w.heap.size + 1, 8, none⟩ (.int .i64 x8) (.inr (by simp))
  replace r2 := cell_set r2 ⟨w.heap.size + 1, 8, none⟩ (.int .i64 x8) (.inr (by simp))
  replace r3 := cell_set r3 ⟨w.heap.size + 1, 8, none⟩ (.int .i64 x8) (.inr (by simp))
  replace r4 := cell_set r4 ⟨w.heap.size + 1, 8, none⟩ (.int .i64 x8) (.inr (by simp))
  replace r5 := cell_set r5 ⟨w.heap.size + 1, 8, none⟩ (.int .i64 x8) (.inr (by simp))
  replace r6 := cell_set r6 ⟨w.heap.size + 1, 8, none⟩ (.int .i64 x8) (.inr (by simp))
  replace r7 := cell_set r7 ⟨w.heap.size + 1, 8, none⟩ (.int .i64 x8) (.inr (by simp))
  replace r8 := World.cell?_setCell_same _ _ (.int .i64 x8) r8
  replace r9 := cell_set r9 ⟨w.heap.size + 1, 8, none⟩ (.int .i64 x8) (.inr (by simp))
  replace r10 := cell_set r10 ⟨w.heap.size + 1, 8, none⟩ (.int .i64 x8) (.inr (by simp))
  replace r11 := cell_set r11 ⟨w.heap.size + 1, 8, none⟩ (.int .i64 x8) (.inr (by simp))
  replace o5 := o5.set ⟨w.heap.size + 1, 8, none⟩ (.int .i64 x8) (.inl (show w.heap.size + 1 < _ from by omega))
  replace o11 := o11.set ⟨w.heap.size + 1, 8, none⟩ (.int .i64 x8) (.inl (show w.heap.size + 1 < _ from by omega))
  replace M := M.put ⟨w.heap.size + 1, 8, none⟩ (.int .i64 x8) (show w.heap.size ≤ w.heap.size + 1 from by omega)
  replace r0 := cell_set r0 ⟨w.heap.size + 1, 9, none⟩ (.int .i64 x9) (.inr (by simp))
  replace r1 := cell_set r1 ⟨w.heap.size + 1, 9, none⟩ (.int .i64 x9) (.inr (by simp))
  replace r2 := cell_set r2 ⟨w.heap.size + 1, 9, none⟩ (.int .i64 x9) (.inr (by simp))
  replace r3 := cell_set r3 ⟨w.heap.size + 1, 9, none⟩ (.int .i64 x9) (.inr (by simp))
  replace r4 := cell_set r4 ⟨w.heap.size + 1, 9, none⟩ (.int .i64 x9) (.inr (by simp))
  replace r5 := cell_set r5 ⟨w.heap.size + 1, 9, none⟩ (.int .i64 x9) (.inr (by simp))
  replace r6 := cell_set r6 ⟨w.heap.size + 1, 9, none⟩ (.int .i64 x9) (.inr (by simp))
  replace r7 := cell_set r7 ⟨w.heap.size + 1, 9, none⟩ (.int .i64 x9) (.inr (by simp))
  replace r8 := cell_set r8 ⟨w.heap.size + 1, 9, none⟩ (.int .i64 x9) (.inr (by simp))
  replace r9 := World.cell?_setCell_same _ _ (.int .i64 x9) r9
  replace r10 := cell_set r10 ⟨w.heap.size + 1, 9, none⟩ (.int .i64 x9) (.inr (by simp))
  replace r11 := cell_set r11 ⟨w.heap.size + 1, 9, none⟩ (.int .i64 x9) (.inr (by simp))
  replace o5 := o5.set ⟨w.heap.size + 1, 9, none⟩ (.int .i64 x9) (.inl (show w.heap.size + 1 < _ from by omega))
  replace o11 := o11.set ⟨w.heap.size + 1, 9, none⟩ (.int .i64 x9) (.inl (show w.heap.size + 1 < _ from by omega))
  replace M := M.put ⟨w.heap.size + 1, 9, none⟩ (.int .i64 x9) (show w.heap.size ≤ w.heap.size + 1 from by omega)
  replace r0 := cell_set r0 ⟨w.heap.size + 1, 10, none⟩ (.int .i64 x10) (.inr (by simp))
  replace r1 := cell_set r1 ⟨w.heap.size + 1, 10, none⟩ (.int .i64 x10) (.inr (by simp))
  replace r2 := cell_set r2 ⟨w.heap.size + 1, 10, none⟩ (.int .i64 x10) (.inr (by simp))
  replace r3 := cell_set r3 ⟨w.heap.size + 1, 10, none⟩ (.int .i64 x10) (.inr (by simp))
  replace r4 := cell_set r4 ⟨w.heap.size + 1, 10, none⟩ (.int .i64 x10) (.inr (by simp))
  replace r5 := cell_set r5 ⟨w.heap.size + 1, 10, none⟩ (.int .i64 x10) (.inr (by simp))
  replace r6 := cell_set r6 ⟨w.heap.size + 1, 10, none⟩ (.int .i64 x10) (.inr (by simp))
  replace r7 := cell_set r7 ⟨w.heap.size + 1, 10, none⟩ (.int .i64 x10) (.inr (by simp))
  replace r8 := cell_set r8 ⟨w.heap.size + 1, 10, none⟩ (.int .i64 x10) (.inr (by simp))
  replace r9 := cell_set r9 ⟨w.heap.size + 1, 10, none⟩ (.int .i64 x10) (.inr (by simp))
  replace r10 := World.cell?_setCell_same _ _ (.int .i64 x10) r10
  replace r11 := cell_set r11 ⟨w.heap.size + 1, 10, none⟩ (.int .i64 x10) (.inr (by simp))
  replace o5 := o5.set ⟨w.heap.size + 1, 10, none⟩ (.int .i64 x10) (.inl (show w.heap.size + 1 < _ from by omega))
  replace o11 := o11.set ⟨w.heap.size + 1, 10, none⟩ (.int .i64 x10) (.inl (show w.heap.size + 1 < _ from by omega))
  replace M := M.put ⟨w.heap.size + 1, 10, none⟩ (.int .i64 x10) (show w.heap.size ≤ w.heap.size + 1 from by omega)
  replace r0 := cell_set r0 ⟨w.heap.size + 1, 11, none⟩ (.slice (some ⟨b11, 0, none⟩) n11 n11) (.inr (by simp))
  replace r1 := cell_set r1 ⟨w.heap.size + 1, 11, none⟩ (.slice (some ⟨b11, 0, none⟩) n11 n11) (.inr (by simp))
  replace r2 := cell_set r2 ⟨w.heap.size + 1, 11, none⟩ (.slice (some ⟨b11, 0, none⟩) n11 n11) (.inr (by simp))
  replace r3 := cell_set r3 ⟨w.heap.size + 1, 11, none⟩ (.slice (some ⟨b11, 0, none⟩) n11 n11) (.inr (by simp))
  replace r4 := cell_set r4 ⟨w.heap.size + 1, 11, none⟩ (.slice (some ⟨b11, 0, none⟩) n11 n11) (.inr (by simp))
  replace r5 := cell_set r5 ⟨w.heap.size + 1, 11, none⟩ (.slice (some ⟨b11, 0, none⟩) n11 n11) (.inr (by simp))
  replace r6 := cell_set r6 ⟨w.heap.size + 1, 11, none⟩ (.slice (some ⟨b11, 0, none⟩) n11 n11) (.inr (by simp))
  replace r7 := cell_set r7 ⟨w.heap.size + 1, 11, none⟩ (.slice (some ⟨b11, 0, none⟩) n11 n11) (.inr (by simp))
  replace r8 := cell_set r8 ⟨w.heap.size + 1, 11, none⟩ (.slice (some ⟨b11, 0, none⟩) n11 n11) (.inr (by simp))
  replace r9 := cell_set r9 ⟨w.heap.size + 1, 11, none⟩ (.slice (some ⟨b11, 0, none⟩) n11 n11) (.inr (by simp))
  replace r10 := cell_set r10 ⟨w.heap.size + 1, 11, none⟩ (.slice (some ⟨b11, 0, none⟩) n11 n11) (.inr (by simp))
  replace r11 := World.cell?_setCell_same _ _ (.slice (some ⟨b11, 0, none⟩) n11 n11) r11
  replace o5 := o5.set ⟨w.heap.size + 1, 11, none⟩ (.slice (some ⟨b11, 0, none⟩) n11 n11) (.inl (show w.heap.size + 1 < _ from by omega))
  replace o11 := o11.set ⟨w.heap.size + 1, 11, none⟩ (.slice (some ⟨b11, 0, none⟩) n11 n11) (.inl (show w.heap.size + 1 < _ from by omega))
  replace M := M.put ⟨w.heap.size + 1, 11, none⟩ (.slice (some ⟨b11, 0, none⟩) n11 n11) (show w.heap.size ≤ w.heap.size + 1 from by omega)
  clear p0 p1 p2 p3 p4 p5 p6 p7 p8 p9 p10 p11 fr fp
  have zF : ((((((((((((u1.setCell ⟨w.heap.size + 1, 0, none⟩ (.int .i64 x0)).setCell ⟨w.heap.size + 1, 1, none⟩ (.int .i64 x1)).setCell ⟨w.heap.size + 1, 2, none⟩ (.int .i64 x2)).setCell ⟨w.heap.size + 1, 3, none⟩ (.int .i64 x3)).setCell ⟨w.heap.size + 1, 4, none⟩ (.int .i64 x4)).setCell ⟨w.heap.size + 1, 5, none⟩ (.slice (some ⟨b5, 0, none⟩) n5 n5)).setCell ⟨w.heap.size + 1, 6, none⟩ (.int .i64 x6)).setCell ⟨w.heap.size + 1, 7, none⟩ (.int .i64 x7)).setCell ⟨w.heap.size + 1, 8, none⟩ (.int .i64 x8)).setCell ⟨w.heap.size + 1, 9, none⟩ (.int .i64 x9)).setCell ⟨w.heap.size + 1, 10, none⟩ (.int .i64 x10)).setCell ⟨w.heap.size + 1, 11, none⟩ (.slice (some ⟨b11, 0, none⟩) n11 n11)).heap.size = u1.heap.size := by simp [World.setCell]
  generalize ((((((((((((u1.setCell ⟨w.heap.size + 1, 0, none⟩ (.int .i64 x0)).setCell ⟨w.heap.size + 1, 1, none⟩ (.int .i64 x1)).setCell ⟨w.heap.size + 1, 2, none⟩ (.int .i64 x2)).setCell ⟨w.heap.size + 1, 3, none⟩ (.int .i64 x3)).setCell ⟨w.heap.size + 1, 4, none⟩ (.int .i64 x4)).setCell ⟨w.heap.size + 1, 5, none⟩ (.slice (some ⟨b5, 0, none⟩) n5 n5)).setCell ⟨w.heap.size + 1, 6, none⟩ (.int .i64 x6)).setCell ⟨w.heap.size + 1, 7, none⟩ (.int .i64 x7)).setCell ⟨w.heap.size + 1, 8, none⟩ (.int .i64 x8)).setCell ⟨w.heap.size + 1, 9, none⟩ (.int .i64 x9)).setCell ⟨w.heap.size + 1, 10, none⟩ (.int .i64 x10)).setCell ⟨w.heap.size + 1, 11, none⟩ (.slice (some ⟨b11, 0, none⟩) n11 n11)) = WF at *
  refine bodyPost_ret (v := .agg #[.int .i64 x0, .int .i64 x1, .int .i64 x2, .int .i64 x3, .int .i64 x4, .slice (some ⟨b5, 0, none⟩) n5 n5, .int .i64 x6, .int .i64 x7, .int .i64 x8, .int .i64 x9, .int .i64 x10, .slice (some ⟨b11, 0, none⟩) n11 n11]) (by simp [results, Try.results34, go_sem, r0, r1, r2, r3, r4, r5, r6, r7, r8, r9, r10, r11]) rfl ⟨b5, b11, d5, rfl, ?_, ?_, ?_, ?_, M⟩
  · exact o5.wide (by omega) (by omega)
  · exact o11.wide (by omega) (by omega)
  · omega
  · omega

set_option maxRecDepth 100000 in
set_option maxHeartbeats 4000000 in
theorem eqVerdictC (x0 : Int) (x1 : Int) (x2 : Int) (x3 : Int) (x4 : Int) (x6 : Int) (x7 : Int) (x8 : Int) (x9 : Int) (x10 : Int) (a5 a5' : Option Addr) (n5 c5 c5' : Nat) (z5 : List TPathPart) (a11 a11' : Option Addr) (n11 c11 c11' : Nat) (z11 : List TByte) (B B' : Nat) (w : World) (h5 : HasPathPart w B a5 n5 z5) (h11 : HasByte w B a11 n11 z11) (h5' : HasPathPart w B' a5' n5 z5) (h11' : HasByte w B' a11' n11 z11) (hB : B ≤ w.heap.size) (hB' : B' ≤ w.heap.size) (hn5 : szPathPart z5 n5 ≤ 1048576) (hn11 : n11 ≤ 1048576) :
    Calls Try.prog 36 #[.agg #[.int .i64 x0, .int .i64 x1, .int .i64 x2, .int .i64 x3, .int .i64 x4, .slice a5 n5 c5, .int .i64 x6, .int .i64 x7, .int .i64 x8, .int .i64 x9, .int .i64 x10, .slice a11 n11 c11], .agg #[.int .i64 x0, .int .i64 x1, .int .i64 x2, .int .i64 x3, .int .i64 x4, .slice a5' n5 c5', .int .i64 x6, .int .i64 x7, .int .i64 x8, .int .i64 x9, .int .i64 x10, .slice a11' n11 c11']] w fun e w' => e = .returned (.bool true) ∧ Mk0 w w' := by
  have M := (Mk.alloc w (Obj.cells #[Value.int .i64 x0, Value.int .i64 x1, Value.int .i64 x2, Value.int .i64 x3, Value.int .i64 x4, Value.slice a5 n5 c5, Value.int .i64 x6, Value.int .i64 x7, Value.int .i64 x8, Value.int .i64 x9, Value.int .i64 x10, Value.slice a11 n11 c11] 53)).new (Obj.cells #[Value.int .i64 x0, Value.int .i64 x1, Value.int .i64 x2, Value.int .i64 x3, Value.int .i64 x4, Value.slice a5' n5 c5', Value.int .i64 x6, Value.int .i64 x7, Value.int .i64 x8, Value.int .i64 x9, Value.int .i64 x10, Value.slice a11' n11 c11'] 53)
  have k2 : ((w.alloc (Obj.cells #[Value.int .i64 x0, Value.int .i64 x1, Value.int .i64 x2, Value.int .i64 x3, Value.int .i64 x4, Value.slice a5 n5 c5, Value.int .i64 x6, Value.int .i64 x7, Value.int .i64 x8, Value.int .i64 x9, Value.int .i64 x10, Value.slice a11 n11 c11] 53)).alloc (Obj.cells #[Value.int .i64 x0, Value.int .i64 x1, Value.int .i64 x2, Value.int .i64 x3, Value.int .i64 x4, Value.slice a5' n5 c5', Value.int .i64 x6, Value.int .i64 x7, Value.int .i64 x8, Value.int .i64 x9, Value.int .i64 x10, Value.slice a11' n11 c11'] 53)).cell? ⟨w.heap.size, 2, none⟩ = some (.int .i64 x2) := by simp [go_sem]
  have k3 : ((w.alloc (Obj.cells #[Value.int .i64 x0, Value.int .i64 x1, Value.int .i64 x2, Value.int .i64 x3, Value.int .i64 x4, Value.slice a5 n5 c5, Value.int .i64 x6, Value.int .i64 x7, Value.int .i64 x8, Value.int .i64 x9, Value.int .i64 x10, Value.slice a11 n11 c11] 53)).alloc (Obj.cells #[Value.int .i64 x0, Value.int .i64 x1, Value.int .i64 x2, Value.int .i64 x3, Value.int .i64 x4, Value.slice a5' n5 c5', Value.int .i64 x6, Value.int .i64 x7, Value.int .i64 x8, Value.int .i64 x9, Value.int .i64 x10, Value.slice a11' n11 c11'] 53)).cell? ⟨w.heap.size, 3, none⟩ = some (.int .i64 x3) := by simp [go_sem]
  have k4 : ((w.alloc (Obj.cells #[Value.int .i64 x0, Value.int .i64 x1, Value.int .i64 x2, Value.int .i64 x3, Value.int .i64 x4, Value.slice a5 n5 c5, Value.int .i64 x6, Value.int .i64 x7, Value.int .i64 x8, Value.int .i64 x9, Value.int .i64 x10, Value.slice a11 n11 c11] 53)).alloc (Obj.cells #[Value.int .i64 x0, Value.int .i64 x1, Value.int .i64 x2, Value.int .i64 x3, Value.int .i64 x4, Value.slice a5' n5 c5', Value.int .i64 x6, Value.int .i64 x7, Value.int .i64 x8, Value.int .i64 x9, Value.int .i64 x10, Value.slice a11' n11 c11'] 53)).cell? ⟨w.heap.size, 4, none⟩ = some (.int .i64 x4) := by simp [go_sem]
  have k5 : ((w.alloc (Obj.cells #[Value.int .i64 x0, Value.int .i64 x1, Value.int .i64 x2, Value.int .i64 x3, Value.int .i64 x4, Value.slice a5 n5 c5, Value.int .i64 x6, Value.int .i64 x7, Value.int .i64 x8, Value.int .i64 x9, Value.int .i64 x10, Value.slice a11 n11 c11] 53)).alloc (Obj.cells #[Value.int .i64 x0, Value.int .i64 x1, Value.int .i64 x2, Value.int .i64 x3, Value.int .i64 x4, Value.slice a5' n5 c5', Value.int .i64 x6, Value.int .i64 x7, Value.int .i64 x8, Value.int .i64 x9, Value.int .i64 x10, Value.slice a11' n11 c11'] 53)).cell? ⟨w.heap.size, 5, none⟩ = some (.slice a5 n5 c5) := by simp [go_sem]
  have k6 : ((w.alloc (Obj.cells #[Value.int .i64 x0, Value.int .i64 x1, Value.int .i64 x2, Value.int .i64 x3, Value.int .i64 x4, Value.slice a5 n5 c5, Value.int .i64 x6, Value.int .i64 x7, Value.int .i64 x8, Value.int .i64 x9, Value.int .i64 x10, Value.slice a11 n11 c11] 53)).alloc (Obj.cells #[Value.int .i64 x0, Value.int .i64 x1, Value.int .i64 x2, Value.int .i64 x3, Value.int .i64 x4, Value.slice a5' n5 c5', Value.int .i64 x6, Value.int .i64 x7, Value.int .i64 x8, Value.int .i64 x9, Value.int .i64 x10, Value.slice a11' n11 c11'] 53)).cell? ⟨w.heap.size, 6, none⟩ = some (.int .i64 x6) := by simp [go_sem]
  have k7 : ((w.alloc (Obj.cells #[Value.int .i64 x0, Value.int .i64 x1, Value.int .i64 x2, Value.int .i64 x3, Value.int .i64 x4, Value.slice a5 n5 c5, Value.int .i64 x6, Value.int .i64 x7, Value.int .i64 x8, Value.int .i64 x9, Value.int .i64 x10, Value.slice a11 n11 c11] 53)).alloc (Obj.cells #[Value.int .i64 x0, Value.int .i64 x1, Value.int .i64 x2, Value.int .i64 x3, Value.int .i64 x4, Value.slice a5' n5 c5', Value.int .i64 x6, Value.int .i64 x7, Value.int .i64 x8, Value.int .i64 x9, Value.int .i64 x10, Value.slice a11' n11 c11'] 53)).cell? ⟨w.heap.size, 7, none⟩ = some (.int .i64 x7) := by simp [go_sem]
  have k8 : ((w.alloc (Obj.cells #[Value.int .i64 x0, Value.int .i64 x1, Value.int .i64 x2, Value.int .i64 x3, Value.int .i64 x4, Value.slice a5 n5 c5, Value.int .i64 x6, Value.int .i64 x7, Value.int .i64 x8, Value.int .i64 x9, Value.int .i64 x10, Value.slice a11 n11 c11] 53)).alloc (Obj.cells #[Value.int .i64 x0, Value.int .i64 x1, Value.int .i64 x2, Value.int .i64 x3, Value.int .i64 x4, Value.slice a5' n5 c5', Value.int .i64 x6, Value.int .i64 x7, Value.int .i64 x8, Value.int .i64 x9, Value.int .i64 x10, Value.slice a11' n11 c11'] 53)).cell? ⟨w.heap.size, 8, none⟩ = some (.int .i64 x8) := by simp [go_sem]
  have k9 : ((w.alloc (Obj.cells #[Value.int .i64 x0, Value.int .i64 x1, Value.int .i64 x2, Value.int .i64 x3, Value.int .i64 x4, Value.slice a5 n5 c5, Value.int .i64 x6, Value.int .i64 x7, Value.int .i64 x8, Value.int .i64 x9, Value.int .i64 x10, Value.slice a11 n11 c11] 53)).alloc (Obj.cells #[Value.int .i64 x0, Value.int .i64 x1, Value.int .i64 x2, Value.int .i64 x3, Value.int .i64 x4, Value.slice a5' n5 c5', Value.int .i64 x6, Value.int .i64 x7, Value.int .i64 x8, Value.int .i64 x9, Value.int .i64 x10, Value.slice a11' n11 c11'] 53)).cell? ⟨w.heap.size, 9, none⟩ = some (.int .i64 x9) := by simp [go_sem]
  have k10 : ((w.alloc (Obj.cells #[Value.int .i64 x0, Value.int .i64 x1, Value.int .i64 x2, Value.int .i64 x3, Value.int .i64 x4, Value.slice a5 n5 c5, Value.int .i64 x6, Value.int .i64 x7, Value.int .i64 x8, Value.int .i64 x9, Value.int .i64 x10, Value.slice a11 n11 c11] 53)).alloc (Obj.cells #[Value.int .i64 x0, Value.int .i64 x1, Value.int .i64 x2, Value.int .i64 x3, Value.int .i64 x4, Value.slice a5' n5 c5', Value.int .i64 x6, Value.int .i64 x7, Value.int .i64 x8, Value.int .i64 x9, Value.int .i64 x10, Value.slice a11' n11 c11'] 53)).cell? ⟨w.heap.size, 10, none⟩ = some (.int .i64 x10) := by simp [go_sem]
  have k11 : ((w.alloc (Obj.cells #[Value.int .i64 x0, Value.int .i64 x1, Value.int .i64 x2, Value.int .i64 x3, Value.int .i64 x4, Value.slice a5 n5 c5, Value.int .i64 x6, Value.int .i64 x7, Value.int .i64 x8, Value.int .i64 x9, Value.int .i64 x10, Value.slice a11 n11 c11] 53)).alloc (Obj.cells #[Value.int .i64 x0, Value.int .i64 x1, Value.int .i64 x2, Value.int .i64 x3, Value.int .i64 x4, Value.slice a5' n5 c5', Value.int .i64 x6, Value.int .i64 x7, Value.int .i64 x8, Value.int .i64 x9, Value.int .i64 x10, Value.slice a11' n11 c11'] 53)).cell? ⟨w.heap.size, 11, none⟩ = some (.slice a11 n11 c11) := by simp [go_sem]
  have s2 : ((w.alloc (Obj.cells #[Value.int .i64 x0, Value.int .i64 x1, Value.int .i64 x2, Value.int .i64 x3, Value.int .i64 x4, Value.slice a5 n5 c5, Value.int .i64 x6, Value.int .i64 x7, Value.int .i64 x8, Value.int .i64 x9, Value.int .i64 x10, Value.slice a11 n11 c11] 53)).alloc (Obj.cells #[Value.int .i64 x0, Value.int .i64 x1, Value.int .i64 x2, Value.int .i64 x3, Value.int .i64 x4, Value.slice a5' n5 c5', Value.int .i64 x6, Value.int .i64 x7, Value.int .i64 x8, Value.int .i64 x9, Value.int .i64 x10, Value.slice a11' n11 c11'] 53)).cell? ⟨w.heap.size + 1, 2, none⟩ = some (.int .i64 x2) := by simp [go_sem]
  have s3 : ((w.alloc (Obj.cells #[Value.int .i64 x0, Value.int .i64 x1, Value.int .i64 x2, Value.int .i64 x3, Value.int .i64 x4, Value.slice a5 n5 c5, Value.int .i64 x6, Value.int .i64 x7, Value.int .i64 x8, Value.int .i64 x9, Value.int .i64 x10, Value.slice a11 n11 c11] 53)).alloc (Obj.cells #[Value.int .i64 x0, Value.int .i64 x1, Value.int .i64 x2, Value.int .i64 x3, Value.int .i64 x4, Value.slice a5' n5 c5', Value.int .i64 x6, Value.int .i64 x7, Value.int .i64 x8, Value.int .i64 x9, Value.int .i64 x10, Value.slice a11' n11 c11'] 53)).cell? ⟨w.heap.size + 1, 3, none⟩ = some (.int .i64 x3) := by simp [go_sem]
  have s4 : ((w.alloc (Obj.cells #[Value.int .i64 x0, Value.int .i64 x1, Value.int .i64 x2, Value.int .i64 x3, Value.int .i64 x4, Value.slice a5 n5 c5, Value.int .i64 x6, Value.int .i64 x7, Value.int .i64 x8, Value.int .i64 x9, Value.int .i64 x10, Value.slice a11 n11 c11] 53)).alloc (Obj.cells #[Value.int .i64 x0, Value.int .i64 x1, Value.int .i64 x2, Value.int .i64 x3, Value.int .i64 x4, Value.slice a5' n5 c5', Value.int .i64 x6, Value.int .i64 x7, Value.int .i64 x8, Value.int .i64 x9, Value.int .i64 x10, Value.slice a11' n11 c11'] 53)).cell? ⟨w.heap.size + 1, 4, none⟩ = some (.int .i64 x4) := by simp [go_sem]
  have s5 : ((w.alloc (Obj.cells #[Value.int .i64 x0, Value.int .i64 x1, Value.int .i64 x2, Value.int .i64 x3, Value.int .i64 x4, Value.slice a5 n5 c5, Value.int .i64 x6, Value.int .i64 x7, Value.int .i64 x8, Value.int .i64 x9, Value.int .i64 x10, Value.slice a11 n11 c11] 53)).alloc (Obj.cells #[Value.int .i64 x0, Value.int .i64 x1, Value.int .i64 x2, Value.int .i64 x3, Value.int .i64 x4, Value.slice a5' n5 c5', Value.int .i64 x6, Value.int .i64 x7, Value.int .i64 x8, Value.int .i64 x9, Value.int .i64 x10, Value.slice a11' n11 c11'] 53)).cell? ⟨w.heap.size + 1, 5, none⟩ = some (.slice a5' n5 c5') := by simp [go_sem]
  have s6 : ((w.alloc (Obj.cells #[Value.int .i64 x0, Value.int .i64 x1, Value.int .i64 x2, Value.int .i64 x3, Value.int .i64 x4, Value.slice a5 n5 c5, Value.int .i64 x6, Value.int .i64 x7, Value.int .i64 x8, Value.int .i64 x9, Value.int .i64 x10, Value.slice a11 n11 c11] 53)).alloc (Obj.cells #[Value.int .i64 x0, Value.int .i64 x1, Value.int .i64 x2, Value.int .i64 x3, Value.int .i64 x4, Value.slice a5' n5 c5', Value.int .i64 x6, Value.int .i64 x7, Value.int .i64 x8, Value.int .i64 x9, Value.int .i64 x10, Value.slice a11' n11 c11'] 53)).cell? ⟨w.heap.size + 1, 6, none⟩ = some (.int .i64 x6) := by simp [go_sem]
  have s7 : ((w.alloc (Obj.cells #[Value.int .i64 x0, Value.int .i64 x1, Value.int .i64 x2, Value.int .i64 x3, Value.int .i64 x4, Value.slice a5 n5 c5, Value.int .i64 x6, Value.int .i64 x7, Value.int .i64 x8, Value.int .i64 x9, Value.int .i64 x10, Value.slice a11 n11 c11] 53)).alloc (Obj.cells #[Value.int .i64 x0, Value.int .i64 x1, Value.int .i64 x2, Value.int .i64 x3, Value.int .i64 x4, Value.slice a5' n5 c5', Value.int .i64 x6, Value.int .i64 x7, Value.int .i64 x8, Value.int .i64 x9, Value.int .i64 x10, Value.slice a11' n11 c11'] 53)).cell? ⟨w.heap.size + 1, 7, none⟩ = some (.int .i64 x7) := by simp [go_sem]
  have s8 : ((w.alloc (Obj.cells #[Value.int .i64 x0, Value.int .i64 x1, Value.int .i64 x2, Value.int .i64 x3, Value.int .i64 x4, Value.slice a5 n5 c5, Value.int .i64 x6, Value.int .i64 x7, Value.int .i64 x8, Value.int .i64 x9, Value.int .i64 x10, Value.slice a11 n11 c11] 53)).alloc (Obj.cells #[Value.int .i64 x0, Value.int .i64 x1, Value.int .i64 x2, Value.int .i64 x3, Value.int .i64 x4, Value.slice a5' n5 c5', Value.int .i64 x6, Value.int .i64 x7, Value.int .i64 x8, Value.int .i64 x9, Value.int .i64 x10, Value.slice a11' n11 c11'] 53)).cell? ⟨w.heap.size + 1, 8, none⟩ = some (.int .i64 x8) := by simp [go_sem]
  have s9 : ((w.alloc (Obj.cells #[Value.int .i64 x0, Value.int .i64 x1, Value.int .i64 x2, Value.int .i64 x3, Value.int .i64 x4, Value.slice a5 n5 c5, Value.int .i64 x6, Value.int .i64 x7, Value.int .i64 x8, Value.int .i64 x9, Value.int .i64 x10, Value.slice a11 n11 c11] 53)).alloc (Obj.cells #[Value.int .i64 x0, Value.int .i64 x1, Value.int .i64 x2, Value.int .i64 x3, Value.int .i64 x4, Value.slice a5' n5 c5', Value.int .i64 x6, Value.int .i64 x7, Value.int .i64 x8, Value.int .i64 x9, Value.int .i64 x10, Value.slice a11' n11 c11'] 53)).cell? ⟨w.heap.size + 1, 9, none⟩ = some (.int .i64 x9) := by simp [go_sem]
  have s10 : ((w.alloc (Obj.cells #[Value.int .i64 x0, Value.int .i64 x1, Value.int .i64 x2, Value.int .i64 x3, Value.int .i64 x4, Value.slice a5 n5 c5, Value.int .i64 x6, Value.int .i64 x7, Value.int .i64 x8, Value.int .i64 x9, Value.int .i64 x10, Value.slice a11 n11 c11] 53)).alloc (Obj.cells #[Value.int .i64 x0, Value.int .i64 x1, Value.int .i64 x2, Value.int .i64 x3, Value.int .i64 x4, Value.slice a5' n5 c5', Value.int .i64 x6, Value.int .i64 x7, Value.int .i64 x8, Value.int .i64 x9, Value.int .i64 x10, Value.slice a11' n11 c11'] 53)).cell? ⟨w.heap.size + 1, 10, none⟩ = some (.int .i64 x10) := by simp [go_sem]
  have s11 : ((w.alloc (Obj.cells #[Value.int .i64 x0, Value.int .i64 x1, Value.int .i64 x2, Value.int .i64 x3, Value.int .i64 x4, Value.slice a5 n5 c5, Value.int .i64 x6, Value.int .i64 x7, Value.int .i64 x8, Value.int .i64 x9, Value.int .i64 x10, Value.slice a11 n11 c11] 53)).alloc (Obj.cells #[Value.int .i64 x0, Value.int .i64 x1, Value.int .i64 x2, Value.int .i64 x3, Value.int .i64 x4, Value.slice a5' n5 c5', Value.int .i64 x6, Value.int .i64 x7, Value.int .i64 x8, Value.int .i64 x9, Value.int .i64 x10, Value.slice a11' n11 c11'] 53)).cell? ⟨w.heap.size + 1, 11, none⟩ = some (.slice a11' n11 c11') := by simp [go_sem]
  go_enter Try.func36, Try.ntmps36
  go_wp2_with fail
  generalize ((w.alloc (Obj.cells #[Value.int .i64 x0, Value.int .i64 x1, Value.int .i64 x2, Value.int .i64 x3, Value.int .i64 x4, Value.slice a5 n5 c5, Value.int .i64 x6, Value.int .i64 x7, Value.int .i64 x8, Value.int .i64 x9, Value.int .i64 x10, Value.slice a11 n11 c11] 53)).alloc (Obj.cells #[Value.int .i64 x0, Value.int .i64 x1, Value.int .i64 x2, Value.int .i64 x3, Value.int .i64 x4, Value.slice a5' n5 c5', Value.int .i64 x6, Value.int .i64 x7, Value.int .i64 x8, Value.int .i64 x9, Value.int .i64 x10, Value.slice a11' n11 c11'] 53)) = u0 at *
  refine (eqPacketC x2 x3 x4 x6 x7 x8 x9 x10 a5 a5' n5 c5 c5' z5 a11 a11' n11 c11 c11' z11 B B' _ (h5.mk M hB (.inr (Nat.le_refl _))) (h11.mk M hB (.inr (Nat.le_refl _))) (h5'.mk M hB' (.inr (Nat.le_refl _))) (h11'.mk M hB' (.inr (Nat.le_refl _))) (Nat.le_trans hB M.size) (Nat.le_trans hB' M.size) (by omega) (by omega)).mono ?_
  rintro e w1 ⟨rfl, m1⟩
  clear k2 s2
  clear k3 s3
  clear k4 s4
  clear k5 s5
  clear k6 s6
  clear k7 s7
  clear k8 s8
  clear k9 s9
  clear k10 s10
  clear k11 s11
  replace M := M.trans m1
  go_wp2_with fail
  go_ret
  exact ⟨rfl, M⟩

set_option maxRecDepth 100000 in
set_option maxHeartbeats 4000000 in
theorem szVerdictC (x0 : Int) (x1 : Int) (x2 : Int) (x3 : Int) (x4 : Int) (x6 : Int) (x7 : Int) (x8 : Int) (x9 : Int) (x10 : Int) (a5 : Option Addr) (n5 c5 : Nat) (a11 : Option Addr) (n11 c11 : Nat) (z5 : List TPathPart) (B : Nat) (l : Int) (w : World) (h5 : HasPathPart w B a5 n5 z5) (hB : B ≤ w.heap.size) (hq0 : 0 ≤ l) (hq1 : l ≤ 1048576) (hn : (((szPathPart z5 n5 : Nat)) : Int) + (n11 : Int) ≤ l) :
    Calls Try.prog 32 #[.agg #[.int .i64 x0, .int .i64 x1, .int .i64 x2, .int .i64 x3, .int .i64 x4, .slice a5 n5 c5, .int .i64 x6, .int .i64 x7, .int .i64 x8, .int .i64 x9, .int .i64 x10, .slice a11 n11 c11], .int .i64 l] w fun e w' => ∃ l' : Int, l' = (l - (((szPathPart z5 n5 : Nat)) : Int)) - (n11 : Int) ∧ e = .returned (.int .i64 l') ∧ Mk0 w w' := by
  have M := Mk.alloc w (Obj.cells #[Value.int .i64 x0, Value.int .i64 x1, Value.int .i64 x2, Value.int .i64 x3, Value.int .i64 x4, Value.slice a5 n5 c5, Value.int .i64 x6, Value.int .i64 x7, Value.int .i64 x8, Value.int .i64 x9, Value.int .i64 x10, Value.slice a11 n11 c11] 49)
  have k2 : (w.alloc (Obj.cells #[Value.int .i64 x0, Value.int .i64 x1, Value.int .i64 x2, Value.int .i64 x3, Value.int .i64 x4, Value.slice a5 n5 c5, Value.int .i64 x6, Value.int .i64 x7, Value.int .i64 x8, Value.int .i64 x9, Value.int .i64 x10, Value.slice a11 n11 c11] 49)).cell? ⟨w.heap.size, 2, none⟩ = some (.int .i64 x2) := by simp [go_sem]
  have k3 : (w.alloc (Obj.cells #[Value.int .i64 x0, Value.int .i64 x1, Value.int .i64 x2, Value.int .i64 x3, Value.int .i64 x4, Value.slice a5 n5 c5, Value.int .i64 x6, Value.int .i64 x7, Value.int .i64 x8, Value.int .i64 x9, Value.int .i64 x10, Value.slice a11 n11 c11] 49)).cell? ⟨w.heap.size, 3, none⟩ = some (.int .i64 x3) := by simp [go_sem]
  have k4 : (w.alloc (Obj.cells #[Value.int .i64 x0, Value.int .i64 x1, Value.int .i64 x2, Value.int .i64 x3, Value.int .i64 x4, Value.slice a5 n5 c5, Value.int .i64 x6, Value.int .i64 x7, Value.int .i64 x8, Value.int .i64 x9, Value.int .i64 x10, Value.slice a11 n11 c11] 49)).cell? ⟨w.heap.size, 4, none⟩ = some (.int .i64 x4) := by simp [go_sem]
  have k5 : (w.alloc (Obj.cells #[Value.int .i64 x0, Value.int .i64 x1, Value.int .i64 x2, Value.int .i64 x3, Value.int .i64 x4, Value.slice a5 n5 c5, Value.int .i64 x6, Value.int .i64 x7, Value.int .i64 x8, Value.int .i64 x9, Value.int .i64 x10, Value.slice a11 n11 c11] 49)).cell? ⟨w.heap.size, 5, none⟩ = some (.slice a5 n5 c5) := by simp [go_sem]
  have k6 : (w.alloc (Obj.cells #[Value.int .i64 x0, Value.int .i64 x1, Value.int .i64 x2, Value.int .i64 x3, Value.int .i64 x4, Value.slice a5 n5 c5, Value.int .i64 x6, Value.int .i64 x7, Value.int .i64 x8, Value.int .i64 x9, Value.int .i64 x10, Value.slice a11 n11 c11] 49)).cell? ⟨w.heap.size, 6, none⟩ = some (.int .i64 x6) := by simp [go_sem]
  have k7 : (w.alloc (Obj.cells #[Value.int .i64 x0, Value.int .i64 x1, Value.int .i64 x2, Value.int .i64 x3, Value.int .i64 x4, Value.slice a5 n5 c5, Value.int .i64 x6, Value.int .i64 x7, Value.int .i64 x8, Value.int .i64 x9, Value.int .i64 x10, Value.slice a11 n11 c11] 49)).cell? ⟨w.heap.size, 7, none⟩ = some (.int .i64 x7) := by simp [go_sem]
  have k8 : (w.alloc (Obj.cells #[Value.int .i64 x0, Value.int .i64 x1, Value.int .i64 x2, Value.int .i64 x3, Value.int .i64 x4, Value.slice a5 n5 c5, Value.int .i64 x6, Value.int .i64 x7, Value.int .i64 x8, Value.int .i64 x9, Value.int .i64 x10, Value.slice a11 n11 c11] 49)).cell? ⟨w.heap.size, 8, none⟩ = some (.int .i64 x8) := by simp [go_sem]
  have k9 : (w.alloc (Obj.cells #[Value.int .i64 x0, Value.int .i64 x1, Value.int .i64 x2, Value.int .i64 x3, Value.int .i64 x4, Value.slice a5 n5 c5, Value.int .i64 x6, Value.int .i64 x7, Value.int .i64 x8, Value.int .i64 x9, Value.int .i64 x10, Value.slice a11 n11 c11] 49)).cell? ⟨w.heap.size, 9, none⟩ = some (.int .i64 x9) := by simp [go_sem]
  have k10 : (w.alloc (Obj.cells #[Value.int .i64 x0, Value.int .i64 x1, Value.int .i64 x2, Value.int .i64 x3, Value.int .i64 x4, Value.slice a5 n5 c5, Value.int .i64 x6, Value.int .i64 x7, Value.int .i64 x8, Value.int .i64 x9, Value.int .i64 x10, Value.slice a11 n11 c11] 49)).cell? ⟨w.heap.size, 10, none⟩ = some (.int .i64 x10) := by simp [go_sem]
  have k11 : (w.alloc (Obj.cells #[Value.int .i64 x0, Value.int .i64 x1, Value.int .i64 x2, Value.int .i64 x3, Value.int .i64 x4, Value.slice a5 n5 c5, Value.int .i64 x6, Value.int .i64 x7, Value.int .i64 x8, Value.int .i64 x9, Value.int .i64 x10, Value.slice a11 n11 c11] 49)).cell? ⟨w.heap.size, 11, none⟩ = some (.slice a11 n11 c11) := by simp [go_sem]
  go_enter Try.func32, Try.ntmps32
  go_wp2_with fail
  generalize w.alloc (Obj.cells #[Value.int .i64 x0, Value.int .i64 x1, Value.int .i64 x2, Value.int .i64 x3, Value.int .i64 x4, Value.slice a5 n5 c5, Value.int .i64 x6, Value.int .i64 x7, Value.int .i64 x8, Value.int .i64 x9, Value.int .i64 x10, Value.slice a11 n11 c11] 49) = u0 at *
  refine (szPacketC x2 x3 x4 x6 x7 x8 x9 x10 a5 n5 c5 a11 n11 c11 z5 B _ _ (h5.mk M hB (.inr (Nat.le_refl _))) (Nat.le_trans hB M.size) (by omega) (by omega) (by omega)).mono ?_
  rintro e w1 ⟨l1, hl1, rfl, m1⟩
  replace M := M.trans m1
  go_wp2_with fail
  go_ret
  exact ⟨_, by omega, rfl, M⟩

set_option maxRecDepth 100000 in
set_option maxHeartbeats 4000000 in
theorem szVerdictB (x0 : Int) (x1 : Int) (x2 : Int) (x3 : Int) (x4 : Int) (x6 : Int) (x7 : Int) (x8 : Int) (x9 : Int) (x10 : Int) (a5 : Option Addr) (n5 c5 : Nat) (a11 : Option Addr) (n11 c11 : Nat) (z5 : List TPathPart) (B : Nat) (l : Int) (w : World) (h5 : HasPathPart w B a5 n5 z5) (hB : B ≤ w.heap.size) (hq0 : 0 ≤ l) (hq1 : l ≤ 1048576) (hn : l < (((szPathPart z5 n5 : Nat)) : Int) + (n11 : Int)) (hm5 : n5 ≤ 9223372036854775807) (hm11 : n11 ≤ 9223372036854775807) :
    Calls Try.prog 32 #[.agg #[.int .i64 x0, .int .i64 x1, .int .i64 x2, .int .i64 x3, .int .i64 x4, .slice a5 n5 c5, .int .i64 x6, .int .i64 x7, .int .i64 x8, .int .i64 x9, .int .i64 x10, .slice a11 n11 c11], .int .i64 l] w fun e w' => e = .returned (.int .i64 (-1)) ∧ Mk0 w w' := by
  have M := Mk.alloc w (Obj.cells #[Value.int .i64 x0, Value.int .i64 x1, Value.int .i64 x2, Value.int .i64 x3, Value.int .i64 x4, Value.slice a5 n5 c5, Value.int .i64 x6, Value.int .i64 x7, Value.int .i64 x8, Value.int .i64 x9, Value.int .i64 x10, Value.slice a11 n11 c11] 49)
  have k2 : (w.alloc (Obj.cells #[Value.int .i64 x0, Value.int .i64 x1, Value.int .i64 x2, Value.int .i64 x3, Value.int .i64 x4, Value.slice a5 n5 c5, Value.int .i64 x6, Value.int .i64 x7, Value.int .i64 x8, Value.int .i64 x9, Value.int .i64 x10, Value.slice a11 n11 c11] 49)).cell? ⟨w.heap.size, 2, none⟩ = some (.int .i64 x2) := by simp [go_sem]
  have k3 : (w.alloc (Obj.cells #[Value.int .i64 x0, Value.int .i64 x1, Value.int .i64 x2, Value.int .i64 x3, Value.int .i64 x4, Value.slice a5 n5 c5, Value.int .i64 x6, Value.int .i64 x7, Value.int .i64 x8, Value.int .i64 x9, Value.int .i64 x10, Value.slice a11 n11 c11] 49)).cell? ⟨w.heap.size, 3, none⟩ = some (.int .i64 x3) := by simp [go_sem]
  have k4 : (w.alloc (Obj.cells #[Value.int .i64 x0, Value.int .i64 x1, Value.int .i64 x2, Value.int .i64 x3, Value.int .i64 x4, Value.slice a5 n5 c5, Value.int .i64 x6, Value.int .i64 x7, Value.int .i64 x8, Value.int .i64 x9, Value.int .i64 x10, Value.slice a11 n11 c11] 49)).cell? ⟨w.heap.size, 4, none⟩ = some (.int .i64 x4) := by simp [go_sem]
  have k5 : (w.alloc (Obj.cells #[Value.int .i64 x0, Value.int .i64 x1, Value.int .i64 x2, Value.int .i64 x3, Value.int .i64 x4, Value.slice a5 n5 c5, Value.int .i64 x6, Value.int .i64 x7, Value.int .i64 x8, Value.int .i64 x9, Value.int .i64 x10, Value.slice a11 n11 c11] 49)).cell? ⟨w.heap.size, 5, none⟩ = some (.slice a5 n5 c5) := by simp [go_sem]
  have k6 : (w.alloc (Obj.cells #[Value.int .i64 x0, Value.int .i64 x1, Value.int .i64 x2, Value.int .i64 x3, Value.int .i64 x4, Value.slice a5 n5 c5, Value.int .i64 x6, Value.int .i64 x7, Value.int .i64 x8, Value.int .i64 x9, Value.int .i64 x10, Value.slice a11 n11 c11] 49)).cell? ⟨w.heap.size, 6, none⟩ = some (.int .i64 x6) := by simp [go_sem]
  have k7 : (w.alloc (Obj.cells #[Value.int .i64 x0, Value.int .i64 x1, Value.int .i64 x2, Value.int .i64 x3, Value.int .i64 x4, Value.slice a5 n5 c5, Value.int .i64 x6, Value.int .i64 x7, Value.int .i64 x8, Value.int .i64 x9, Value.int .i64 x10, Value.slice a11 n11 c11] 49)).cell? ⟨w.heap.size, 7, none⟩ = some (.int .i64 x7) := by simp [go_sem]
  have k8 : (w.alloc (Obj.cells #[Value.int .i64 x0, Value.int .i64 x1, Value.int .i64 x2, Value.int .i64 x3, Value.int .i64 x4, Value.slice a5 n5 c5, Value.int .i64 x6, Value.int .i64 x7, Value.int .i64 x8, Value.int .i64 x9, Value.int .i64 x10, Value.slice a11 n11 c11] 49)).cell? ⟨w.heap.size, 8, none⟩ = some (.int .i64 x8) := by simp [go_sem]
  have k9 : (w.alloc (Obj.cells #[Value.int .i64 x0, Value.int .i64 x1, Value.int .i64 x2, Value.int .i64 x3, Value.int .i64 x4, Value.slice a5 n5 c5, Value.int .i64 x6, Value.int .i64 x7, Value.int .i64 x8, Value.int .i64 x9, Value.int .i64 x10, Value.slice a11 n11 c11] 49)).cell? ⟨w.heap.size, 9, none⟩ = some (.int .i64 x9) := by simp [go_sem]
  have k10 : (w.alloc (Obj.cells #[Value.int .i64 x0, Value.int .i64 x1, Value.int .i64 x2, Value.int .i64 x3, Value.int .i64 x4, Value.slice a5 n5 c5, Value.int .i64 x6, Value.int .i64 x7, Value.int .i64 x8, Value.int .i64 x9, Value.int .i64 x10, Value.slice a11 n11 c11] 49)).cell? ⟨w.heap.size, 10, none⟩ = some (.int .i64 x10) := by simp [go_sem]
  have k11 : (w.alloc (Obj.cells #[Value.int .i64 x0, Value.int .i64 x1, Value.int .i64 x2, Value.int .i64 x3, Value.int .i64 x4, Value.slice a5 n5 c5, Value.int .i64 x6, Value.int .i64 x7, Value.int .i64 x8, Value.int .i64 x9, Value.int .i64 x10, Value.slice a11 n11 c11] 49)).cell? ⟨w.heap.size, 11, none⟩ = some (.slice a11 n11 c11) := by simp [go_sem]
  go_enter Try.func32, Try.ntmps32
  go_wp2_with fail
  generalize w.alloc (Obj.cells #[Value.int .i64 x0, Value.int .i64 x1, Value.int .i64 x2, Value.int .i64 x3, Value.int .i64 x4, Value.slice a5 n5 c5, Value.int .i64 x6, Value.int .i64 x7, Value.int .i64 x8, Value.int .i64 x9, Value.int .i64 x10, Value.slice a11 n11 c11] 49) = u0 at *
  refine (szPacketB x2 x3 x4 x6 x7 x8 x9 x10 a5 n5 c5 a11 n11 c11 z5 B _ _ (h5.mk M hB (.inr (Nat.le_refl _))) (Nat.le_trans hB M.size) (by omega) (by omega) (by omega) hm5 hm11).mono ?_
  rintro e w1 ⟨rfl, m1⟩
  replace M := M.trans m1
  go_wp2_with fail
  go_ret
  exact ⟨rfl, M⟩

end Go.Proofs.Ytbjfcjjfhnjaiaa
