
/- Packet by value: the laws' copy, equality and size. -/
import Derived.Test.YtdlafigjkefllaaCPath
import Derived.Test.YtdlafigjkefllaaByteR
import Derived.Test.YtdlafigjkefllaaByteZ
namespace Go.Proofs.Ytdlafigjkefllaa
open Go.ChangeShapes Go.WideShapes Go.ChangeAt Go.RowKit
set_option linter.unusedVariables false

set_option maxRecDepth 100000 in
set_option maxHeartbeats 4000000 in
theorem toPacketC (x0 : Int) (x1 : Int) (x2 : Int) (x4 : Int) (x5 : Int) (x6 : Int) (x7 : Int) (x8 : Int) (a3 : Option Addr) (n3 c3 : Nat) (z3 : List TPathPart) (a9 : Option Addr) (n9 c9 : Nat) (z9 : List TByte) (B : Nat) (w : World) (h3 : HasPathPart w B a3 n3 z3) (h9 : HasByte w B a9 n9 z9) (hB : B ≤ w.heap.size) (hn3 : szPathPart z3 n3 ≤ 1048576) (hn9 : n9 ≤ 1048576) :
    Calls Try.prog 29 #[.agg #[.int .i64 x0, .int .i64 x1, .int .i64 x2, .slice a3 n3 c3, .int .i64 x4, .int .i64 x5, .int .i64 x6, .int .i64 x7, .int .i64 x8, .slice a9 n9 c9]] w fun e w' => ∃ b3 b9 m3, e = .returned (.agg #[.int .i64 x0, .int .i64 x1, .int .i64 x2, .slice (some ⟨b3, 0, none⟩) n3 n3, .int .i64 x4, .int .i64 x5, .int .i64 x6, .int .i64 x7, .int .i64 x8, .slice (some ⟨b9, 0, none⟩) n9 n9]) ∧ OwnPathPart w' w.heap.size m3 (some ⟨b3, 0, none⟩) n3 z3 ∧ OwnByte w' m3 w'.heap.size (some ⟨b9, 0, none⟩) n9 z9 ∧ w.heap.size ≤ m3 ∧ m3 ≤ w'.heap.size ∧ Mk0 w w' := by
  have M := ((Mk.alloc w (Obj.cells #[Value.int .i64 x0, Value.int .i64 x1, Value.int .i64 x2, Value.slice a3 n3 c3, Value.int .i64 x4, Value.int .i64 x5, Value.int .i64 x6, Value.int .i64 x7, Value.int .i64 x8, Value.slice a9 n9 c9] 54)).new (Obj.cells #[Value.int .i64 0, Value.int .i64 0, Value.int .i64 0, Value.slice none 0 0, Value.int .i64 0, Value.int .i64 0, Value.int .i64 0, Value.int .i64 0, Value.int .i64 0, Value.slice none 0 0] 66)).new (Obj.cells #[Value.int .i64 x0, Value.int .i64 x1, Value.int .i64 x2, Value.slice none 0 0, Value.int .i64 0, Value.int .i64 0, Value.int .i64 0, Value.int .i64 0, Value.int .i64 0, Value.slice none 0 0] 66)
  have k3 : (((w.alloc (Obj.cells #[Value.int .i64 x0, Value.int .i64 x1, Value.int .i64 x2, Value.slice a3 n3 c3, Value.int .i64 x4, Value.int .i64 x5, Value.int .i64 x6, Value.int .i64 x7, Value.int .i64 x8, Value.slice a9 n9 c9] 54)).alloc (Obj.cells #[Value.int .i64 0, Value.int .i64 0, Value.int .i64 0, Value.slice none 0 0, Value.int .i64 0, Value.int .i64 0, Value.int .i64 0, Value.int .i64 0, Value.int .i64 0, Value.slice none 0 0] 66)).alloc (Obj.cells #[Value.int .i64 x0, Value.int .i64 x1, Value.int .i64 x2, Value.slice none 0 0, Value.int .i64 0, Value.int .i64 0, Value.int .i64 0, Value.int .i64 0, Value.int .i64 0, Value.slice none 0 0] 66)).cell? ⟨w.heap.size, 3, none⟩ = some (.slice a3 n3 c3) := by simp [go_sem]
  have k4 : (((w.alloc (Obj.cells #[Value.int .i64 x0, Value.int .i64 x1, Value.int .i64 x2, Value.slice a3 n3 c3, Value.int .i64 x4, Value.int .i64 x5, Value.int .i64 x6, Value.int .i64 x7, Value.int .i64 x8, Value.slice a9 n9 c9] 54)).alloc (Obj.cells #[Value.int .i64 0, Value.int .i64 0, Value.int .i64 0, Value.slice none 0 0, Value.int .i64 0, Value.int .i64 0, Value.int .i64 0, Value.int .i64 0, Value.int .i64 0, Value.slice none 0 0] 66)).alloc (Obj.cells #[Value.int .i64 x0, Value.int .i64 x1, Value.int .i64 x2, Value.slice none 0 0, Value.int .i64 0, Value.int .i64 0, Value.int .i64 0, Value.int .i64 0, Value.int .i64 0, Value.slice none 0 0] 66)).cell? ⟨w.heap.size, 4, none⟩ = some (.int .i64 x4) := by simp [go_sem]
  have k5 : (((w.alloc (Obj.cells #[Value.int .i64 x0, Value.int .i64 x1, Value.int .i64 x2, Value.slice a3 n3 c3, Value.int .i64 x4, Value.int .i64 x5, Value.int .i64 x6, Value.int .i64 x7, Value.int .i64 x8, Value.slice a9 n9 c9] 54)).alloc (Obj.cells #[Value.int .i64 0, Value.int .i64 0, Value.int .i64 0, Value.slice none 0 0, Value.int .i64 0, Value.int .i64 0, Value.int .i64 0, Value.int .i64 0, Value.int .i64 0, Value.slice none 0 0] 66)).alloc (Obj.cells #[Value.int .i64 x0, Value.int .i64 x1, Value.int .i64 x2, Value.slice none 0 0, Value.int .i64 0, Value.int .i64 0, Value.int .i64 0, Value.int .i64 0, Value.int .i64 0, Value.slice none 0 0] 66)).cell? ⟨w.heap.size, 5, none⟩ = some (.int .i64 x5) := by simp [go_sem]
  have k6 : (((w.alloc (Obj.cells #[Value.int .i64 x0, Value.int .i64 x1, Value.int .i64 x2, Value.slice a3 n3 c3, Value.int .i64 x4, Value.int .i64 x5, Value.int .i64 x6, Value.int .i64 x7, Value.int .i64 x8, Value.slice a9 n9 c9] 54)).alloc (Obj.cells #[Value.int .i64 0, Value.int .i64 0, Value.int .i64 0, Value.slice none 0 0, Value.int .i64 0, Value.int .i64 0, Value.int .i64 0, Value.int .i64 0, Value.int .i64 0, Value.slice none 0 0] 66)).alloc (Obj.cells #[Value.int .i64 x0, Value.int .i64 x1, Value.int .i64 x2, Value.slice none 0 0, Value.int .i64 0, Value.int .i64 0, Value.int .i64 0, Value.int .i64 0, Value.int .i64 0, Value.slice none 0 0] 66)).cell? ⟨w.heap.size, 6, none⟩ = some (.int .i64 x6) := by simp [go_sem]
  have k7 : (((w.alloc (Obj.cells #[Value.int .i64 x0, Value.int .i64 x1, Value.int .i64 x2, Value.slice a3 n3 c3, Value.int .i64 x4, Value.int .i64 x5, Value.int .i64 x6, Value.int .i64 x7, Value.int .i64 x8, Value.slice a9 n9 c9] 54)).alloc (Obj.cells #[Value.int .i64 0, Value.int .i64 0, Value.int .i64 0, Value.slice none 0 0, Value.int .i64 0, Value.int .i64 0, Value.int .i64 0, Value.int .i64 0, Value.int .i64 0, Value.slice none 0 0] 66)).alloc (Obj.cells #[Value.int .i64 x0, Value.int .i64 x1, Value.int .i64 x2, Value.slice none 0 0, Value.int .i64 0, Value.int .i64 0, Value.int .i64 0, Value.int .i64 0, Value.int .i64 0, Value.slice none 0 0] 66)).cell? ⟨w.heap.size, 7, none⟩ = some (.int .i64 x7) := by simp [go_sem]
  have k8 : (((w.alloc (Obj.cells #[Value.int .i64 x0, Value.int .i64 x1, Value.int .i64 x2, Value.slice a3 n3 c3, Value.int .i64 x4, Value.int .i64 x5, Value.int .i64 x6, Value.int .i64 x7, Value.int .i64 x8, Value.slice a9 n9 c9] 54)).alloc (Obj.cells #[Value.int .i64 0, Value.int .i64 0, Value.int .i64 0, Value.slice none 0 0, Value.int .i64 0, Value.int .i64 0, Value.int .i64 0, Value.int .i64 0, Value.int .i64 0, Value.slice none 0 0] 66)).alloc (Obj.cells #[Value.int .i64 x0, Value.int .i64 x1, Value.int .i64 x2, Value.slice none 0 0, Value.int .i64 0, Value.int .i64 0, Value.int .i64 0, Value.int .i64 0, Value.int .i64 0, Value.slice none 0 0] 66)).cell? ⟨w.heap.size, 8, none⟩ = some (.int .i64 x8) := by simp [go_sem]
  have k9 : (((w.alloc (Obj.cells #[Value.int .i64 x0, Value.int .i64 x1, Value.int .i64 x2, Value.slice a3 n3 c3, Value.int .i64 x4, Value.int .i64 x5, Value.int .i64 x6, Value.int .i64 x7, Value.int .i64 x8, Value.slice a9 n9 c9] 54)).alloc (Obj.cells #[Value.int .i64 0, Value.int .i64 0, Value.int .i64 0, Value.slice none 0 0, Value.int .i64 0, Value.int .i64 0, Value.int .i64 0, Value.int .i64 0, Value.int .i64 0, Value.slice none 0 0] 66)).alloc (Obj.cells #[Value.int .i64 x0, Value.int .i64 x1, Value.int .i64 x2, Value.slice none 0 0, Value.int .i64 0, Value.int .i64 0, Value.int .i64 0, Value.int .i64 0, Value.int .i64 0, Value.slice none 0 0] 66)).cell? ⟨w.heap.size, 9, none⟩ = some (.slice a9 n9 c9) := by simp [go_sem]
  have r0 : (((w.alloc (Obj.cells #[Value.int .i64 x0, Value.int .i64 x1, Value.int .i64 x2, Value.slice a3 n3 c3, Value.int .i64 x4, Value.int .i64 x5, Value.int .i64 x6, Value.int .i64 x7, Value.int .i64 x8, Value.slice a9 n9 c9] 54)).alloc (Obj.cells #[Value.int .i64 0, Value.int .i64 0, Value.int .i64 0, Value.slice none 0 0, Value.int .i64 0, Value.int .i64 0, Value.int .i64 0, Value.int .i64 0, Value.int .i64 0, Value.slice none 0 0] 66)).alloc (Obj.cells #[Value.int .i64 x0, Value.int .i64 x1, Value.int .i64 x2, Value.slice none 0 0, Value.int .i64 0, Value.int .i64 0, Value.int .i64 0, Value.int .i64 0, Value.int .i64 0, Value.slice none 0 0] 66)).cell? ⟨w.heap.size + 1, 0, none⟩ = some (.int .i64 0) := by simp [go_sem]
  have r1 : (((w.alloc (Obj.cells #[Value.int .i64 x0, Value.int .i64 x1, Value.int .i64 x2, Value.slice a3 n3 c3, Value.int .i64 x4, Value.int .i64 x5, Value.int .i64 x6, Value.int .i64 x7, Value.int .i64 x8, Value.slice a9 n9 c9] 54)).alloc (Obj.cells #[Value.int .i64 0, Value.int .i64 0, Value.int .i64 0, Value.slice none 0 0, Value.int .i64 0, Value.int .i64 0, Value.int .i64 0, Value.int .i64 0, Value.int .i64 0, Value.slice none 0 0] 66)).alloc (Obj.cells #[Value.int .i64 x0, Value.int .i64 x1, Value.int .i64 x2, Value.slice none 0 0, Value.int .i64 0, Value.int .i64 0, Value.int .i64 0, Value.int .i64 0, Value.int .i64 0, Value.slice none 0 0] 66)).cell? ⟨w.heap.size + 1, 1, none⟩ = some (.int .i64 0) := by simp [go_sem]
  have r2 : (((w.alloc (Obj.cells #[Value.int .i64 x0, Value.int .i64 x1, Value.int .i64 x2, Value.slice a3 n3 c3, Value.int .i64 x4, Value.int .i64 x5, Value.int .i64 x6, Value.int .i64 x7, Value.int .i64 x8, Value.slice a9 n9 c9] 54)).alloc (Obj.cells #[Value.int .i64 0, Value.int .i64 0, Value.int .i64 0, Value.slice none 0 0, Value.int .i64 0, Value.int .i64 0, Value.int .i64 0, Value.int .i64 0, Value.int .i64 0, Value.slice none 0 0] 66)).alloc (Obj.cells #[Value.int .i64 x0, Value.int .i64 x1, Value.int .i64 x2, Value.slice none 0 0, Value.int .i64 0, Value.int .i64 0, Value.int .i64 0, Value.int .i64 0, Value.int .i64 0, Value.slice none 0 0] 66)).cell? ⟨w.heap.size + 1, 2, none⟩ = some (.int .i64 0) := by simp [go_sem]
  have r3 : (((w.alloc (Obj.cells #[Value.int .i64 x0, Value.int .i64 x1, Value.int .i64 x2, Value.slice a3 n3 c3, Value.int .i64 x4, Value.int .i64 x5, Value.int .i64 x6, Value.int .i64 x7, Value.int .i64 x8, Value.slice a9 n9 c9] 54)).alloc (Obj.cells #[Value.int .i64 0, Value.int .i64 0, Value.int .i64 0, Value.slice none 0 0, Value.int .i64 0, Value.int .i64 0, Value.int .i64 0, Value.int .i64 0, Value.int .i64 0, Value.slice none 0 0] 66)).alloc (Obj.cells #[Value.int .i64 x0, Value.int .i64 x1, Value.int .i64 x2, Value.slice none 0 0, Value.int .i64 0, Value.int .i64 0, Value.int .i64 0, Value.int .i64 0, Value.int .i64 0, Value.slice none 0 0] 66)).cell? ⟨w.heap.size + 1, 3, none⟩ = some (.slice none 0 0) := by simp [go_sem]
  have r4 : (((w.alloc (Obj.cells #[Value.int .i64 x0, Value.int .i64 x1, Value.int .i64 x2, Value.slice a3 n3 c3, Value.int .i64 x4, Value.int .i64 x5, Value.int .i64 x6, Value.int .i64 x7, Value.int .i64 x8, Value.slice a9 n9 c9] 54)).alloc (Obj.cells #[Value.int .i64 0, Value.int .i64 0, Value.int .i64 0, Value.slice none 0 0, Value.int .i64 0, Value.int .i64 0, Value.int .i64 0, Value.int .i64 0, Value.int .i64 0, Value.slice none 0 0] 66)).alloc (Obj.cells #[Value.int .i64 x0, Value.int .i64 x1, Value.int .i64 x2, Value.slice none 0 0, Value.int .i64 0, Value.int .i64 0, Value.int .i64 0, Value.int .i64 0, Value.int .i64 0, Value.slice none 0 0] 66)).cell? ⟨w.heap.size + 1, 4, none⟩ = some (.int .i64 0) := by simp [go_sem]
  have r5 : (((w.alloc (Obj.cells #[Value.int .i64 x0, Value.int .i64 x1, Value.int .i64 x2, Value.slice a3 n3 c3, Value.int .i64 x4, Value.int .i64 x5, Value.int .i64 x6, Value.int .i64 x7, Value.int .i64 x8, Value.slice a9 n9 c9] 54)).alloc (Obj.cells #[Value.int .i64 0, Value.int .i64 0, Value.int .i64 0, Value.slice none 0 0, Value.int .i64 0, Value.int .i64 0, Value.int .i64 0, Value.int .i64 0, Value.int .i64 0, Value.slice none 0 0] 66)).alloc (Obj.cells #[Value.int .i64 x0, Value.int .i64 x1, Value.int .i64 x2, Value.slice none 0 0, Value.int .i64 0, Value.int .i64 0, Value.int .i64 0, Value.int .i64 0, Value.int .i64 0, Value.slice none 0 0] 66)).cell? ⟨w.heap.size + 1, 5, none⟩ = some (.int .i64 0) := by simp [go_sem]
  have r6 : (((w.alloc (Obj.cells #[Value.int .i64 x0, Value.int .i64 x1, Value.int .i64 x2, Value.slice a3 n3 c3, Value.int .i64 x4, Value.int .i64 x5, Value.int .i64 x6, Value.int .i64 x7, Value.int .i64 x8, Value.slice a9 n9 c9] 54)).alloc (Obj.cells #[Value.int .i64 0, Value.int .i64 0, Value.int .i64 0, Value.slice none 0 0, Value.int .i64 0, Value.int .i64 0, Value.int .i64 0, Value.int .i64 0, Value.int .i64 0, Value.slice none 0 0] 66)).alloc (Obj.cells #[Value.int .i64 x0, Value.int .i64 x1, Value.int .i64 x2, Value.slice none 0 0, Value.int .i64 0, Value.int .i64 0, Value.int .i64 0, Value.int .i64 0, Value.int .i64 0, Value.slice none 0 0] 66)).cell? ⟨w.heap.size + 1, 6, none⟩ = some (.int .i64 0) := by simp [go_sem]
  have r7 : (((w.alloc (Obj.cells #[Value.int .i64 x0, Value.int .i64 x1, Value.int .i64 x2, Value.slice a3 n3 c3, Value.int .i64 x4, Value.int .i64 x5, Value.int .i64 x6, Value.int .i64 x7, Value.int .i64 x8, Value.slice a9 n9 c9] 54)).alloc (Obj.cells #[Value.int .i64 0, Value.int .i64 0, Value.int .i64 0, Value.slice none 0 0, Value.int .i64 0, Value.int .i64 0, Value.int .i64 0, Value.int .i64 0, Value.int .i64 0, Value.slice none 0 0] 66)).alloc (Obj.cells #[Value.int .i64 x0, Value.int .i64 x1, Value.int .i64 x2, Value.slice none 0 0, Value.int .i64 0, Value.int .i64 0, Value.int .i64 0, Value.int .i64 0, Value.int .i64 0, Value.slice none 0 0] 66)).cell? ⟨w.heap.size + 1, 7, none⟩ = some (.int .i64 0) := by simp [go_sem]
  have r8 : (((w.alloc (Obj.cells #[Value.int .i64 x0, Value.int .i64 x1, Value.int .i64 x2, Value.slice a3 n3 c3, Value.int .i64 x4, Value.int .i64 x5, Value.int .i64 x6, Value.int .i64 x7, Value.int .i64 x8, Value.slice a9 n9 c9] 54)).alloc (Obj.cells #[Value.int .i64 0, Value.int .i64 0, Value.int .i64 0, Value.slice none 0 0, Value.int .i64 0, Value.int .i64 0, Value.int .i64 0, Value.int .i64 0, Value.int .i64 0, Value.slice none 0 0] 66)).alloc (Obj.cells #[Value.int .i64 x0, Value.int .i64 x1, Value.int .i64 x2, Value.slice none 0 0, Value.int .i64 0, Value.int .i64 0, Value.int .i64 0, Value.int .i64 0, Value.int .i64 0, Value.slice none 0 0] 66)).cell? ⟨w.heap.size + 1, 8, none⟩ = some (.int .i64 0) := by simp [go_sem]
  have r9 : (((w.alloc (Obj.cells #[Value.int .i64 x0, Value.int .i64 x1, Value.int .i64 x2, Value.slice a3 n3 c3, Value.int .i64 x4, Value.int .i64 x5, Value.int .i64 x6, Value.int .i64 x7, Value.int .i64 x8, Value.slice a9 n9 c9] 54)).alloc (Obj.cells #[Value.int .i64 0, Value.int .i64 0, Value.int .i64 0, Value.slice none 0 0, Value.int .i64 0, Value.int .i64 0, Value.int .i64 0, Value.int .i64 0, Value.int .i64 0, Value.slice none 0 0] 66)).alloc (Obj.cells #[Value.int .i64 x0, Value.int .i64 x1, Value.int .i64 x2, Value.slice none 0 0, Value.int .i64 0, Value.int .i64 0, Value.int .i64 0, Value.int .i64 0, Value.int .i64 0, Value.slice none 0 0] 66)).cell? ⟨w.heap.size + 1, 9, none⟩ = some (.slice none 0 0) := by simp [go_sem]
  have p0 : (((w.alloc (Obj.cells #[Value.int .i64 x0, Value.int .i64 x1, Value.int .i64 x2, Value.slice a3 n3 c3, Value.int .i64 x4, Value.int .i64 x5, Value.int .i64 x6, Value.int .i64 x7, Value.int .i64 x8, Value.slice a9 n9 c9] 54)).alloc (Obj.cells #[Value.int .i64 0, Value.int .i64 0, Value.int .i64 0, Value.slice none 0 0, Value.int .i64 0, Value.int .i64 0, Value.int .i64 0, Value.int .i64 0, Value.int .i64 0, Value.slice none 0 0] 66)).alloc (Obj.cells #[Value.int .i64 x0, Value.int .i64 x1, Value.int .i64 x2, Value.slice none 0 0, Value.int .i64 0, Value.int .i64 0, Value.int .i64 0, Value.int .i64 0, Value.int .i64 0, Value.slice none 0 0] 66)).cell? ⟨w.heap.size + 1 + 1, 0, none⟩ = some (.int .i64 x0) := by simp [go_sem]
  have p1 : (((w.alloc (Obj.cells #[Value.int .i64 x0, Value.int .i64 x1, Value.int .i64 x2, Value.slice a3 n3 c3, Value.int .i64 x4, Value.int .i64 x5, Value.int .i64 x6, Value.int .i64 x7, Value.int .i64 x8, Value.slice a9 n9 c9] 54)).alloc (Obj.cells #[Value.int .i64 0, Value.int .i64 0, Value.int .i64 0, Value.slice none 0 0, Value.int .i64 0, Value.int .i64 0, Value.int .i64 0, Value.int .i64 0, Value.int .i64 0, Value.slice none 0 0] 66)).alloc (Obj.cells #[Value.int .i64 x0, Value.int .i64 x1, Value.int .i64 x2, Value.slice none 0 0, Value.int .i64 0, Value.int .i64 0, Value.int .i64 0, Value.int .i64 0, Value.int .i64 0, Value.slice none 0 0] 66)).cell? ⟨w.heap.size + 1 + 1, 1, none⟩ = some (.int .i64 x1) := by simp [go_sem]
  have p2 : (((w.alloc (Obj.cells #[Value.int .i64 x0, Value.int .i64 x1, Value.int .i64 x2, Value.slice a3 n3 c3, Value.int .i64 x4, Value.int .i64 x5, Value.int .i64 x6, Value.int .i64 x7, Value.int .i64 x8, Value.slice a9 n9 c9] 54)).alloc (Obj.cells #[Value.int .i64 0, Value.int .i64 0, Value.int .i64 0, Value.slice none 0 0, Value.int .i64 0, Value.int .i64 0, Value.int .i64 0, Value.int .i64 0, Value.int .i64 0, Value.slice none 0 0] 66)).alloc (Obj.cells #[Value.int .i64 x0, Value.int .i64 x1, Value.int .i64 x2, Value.slice none 0 0, Value.int .i64 0, Value.int .i64 0, Value.int .i64 0, Value.int .i64 0, Value.int .i64 0, Value.slice none 0 0] 66)).cell? ⟨w.heap.size + 1 + 1, 2, none⟩ = some (.int .i64 x2) := by simp [go_sem]
  have p3 : (((w.alloc (Obj.cells #[Value.int .i64 x0, Value.int .i64 x1, Value.int .i64 x2, Value.slice a3 n3 c3, Value.int .i64 x4, Value.int .i64 x5, Value.int .i64 x6, Value.int .i64 x7, Value.int .i64 x8, Value.slice a9 n9 c9] 54)).alloc (Obj.cells #[Value.int .i64 0, Value.int .i64 0, Value.int .i64 0, Value.slice none 0 0, Value.int .i64 0, Value.int .i64 0, Value.int .i64 0, Value.int .i64 0, Value.int .i64 0, Value.slice none 0 0] 66)).alloc (Obj.cells #[Value.int .i64 x0, Value.int .i64 x1, Value.int .i64 x2, Value.slice none 0 0, Value.int .i64 0, Value.int .i64 0, Value.int .i64 0, Value.int .i64 0, Value.int .i64 0, Value.slice none 0 0] 66)).cell? ⟨w.heap.size + 1 + 1, 3, none⟩ = some (.slice none 0 0) := by simp [go_sem]
  have p4 : (((w.alloc (Obj.cells #[Value.int .i64 x0, Value.int .i64 x1, Value.int .i64 x2, Value.slice a3 n3 c3, Value.int .i64 x4, Value.int .i64 x5, Value.int .i64 x6, Value.int .i64 x7, Value.int .i64 x8, Value.slice a9 n9 c9] 54)).alloc (Obj.cells #[Value.int .i64 0, Value.int .i64 0, Value.int .i64 0, Value.slice none 0 0, Value.int .i64 0, Value.int .i64 0, Value.int .i64 0, Value.int .i64 0, Value.int .i64 0, Value.slice none 0 0] 66)).alloc (Obj.cells #[Value.int .i64 x0, Value.int .i64 x1, Value.int .i64 x2, Value.slice none 0 0, Value.int .i64 0, Value.int .i64 0, Value.int .i64 0, Value.int .i64 0, Value.int .i64 0, Value.slice none 0 0] 66)).cell? ⟨w.heap.size + 1 + 1, 4, none⟩ = some (.int .i64 0) := by simp [go_sem]
  have p5 : (((w.alloc (Obj.cells #[Value.int .i64 x0, Value.int .i64 x1, Value.int .i64 x2, Value.slice a3 n3 c3, Value.int .i64 x4, Value.int .i64 x5, Value.int .i64 x6, Value.int .i64 x7, Value.int .i64 x8, Value.slice a9 n9 c9] 54)).alloc (Obj.cells #[Value.int .i64 0, Value.int .i64 0, Value.int .i64 0, Value.slice none 0 0, Value.int .i64 0, Value.int .i64 0, Value.int .i64 0, Value.int .i64 0, Value.int .i64 0, Value.slice none 0 0] 66)).alloc (Obj.cells #[Value.int .i64 x0, Value.int .i64 x1, Value.int .i64 x2, Value.slice none 0 0, Value.int .i64 0, Value.int .i64 0, Value.int .i64 0, Value.int .i64 0, Value.int .i64 0, Value.slice none 0 0] 66)).cell? ⟨w.heap.size + 1 + 1, 5, none⟩ = some (.int .i64 0) := by simp [go_sem]
  have p6 : (((w.alloc (Obj.cells #[Value.int .i64 x0, Value.int .i64 x1, Value.int .i64 x2, Value.slice a3 n3 c3, Value.int .i64 x4, Value.int .i64 x5, Value.int .i64 x6, Value.int .i64 x7, Value.int .i64 x8, Value.slice a9 n9 c9] 54)).alloc (Obj.cells #[Value.int .i64 0, Value.int .i64 0, Value.int .i64 0, Value.slice none 0 0, Value.int .i64 0, Value.int .i64 0, Value.int .i64 0, Value.int .i64 0, Value.int .i64 0, Value.slice none 0 0] 66)).alloc (Obj.cells #[Value.int .i64 x0, Value.int .i64 x1, Value.int .i64 x2, Value.slice none 0 0, Value.int .i64 0, Value.int .i64 0, Value.int .i64 0, Value.int .i64 0, Value.int .i64 0, Value.slice none 0 0] 66)).cell? ⟨w.heap.size + 1 + 1, 6, none⟩ = some (.int .i64 0) := by simp [go_sem]
  have p7 : (((w.alloc (Obj.cells #[Value.int .i64 x0, Value.int .i64 x1, Value.int .i64 x2, Value.slice a3 n3 c3, Value.int .i64 x4, Value.int .i64 x5, Value.int .i64 x6, Value.int .i64 x7, Value.int .i64 x8, Value.slice a9 n9 c9] 54)).alloc (Obj.cells #[Value.int .i64 0, Value.int .i64 0, Value.int .i64 0, Value.slice none 0 0, Value.int .i64 0, Value.int .i64 0, Value.int .i64 0, Value.int .i64 0, Value.int .i64 0, Value.slice none 0 0] 66)).alloc (Obj.cells #[Value.int .i64 x0, Value.int .i64 x1, Value.int .i64 x2, Value.slice none 0 0, Value.int .i64 0, Value.int .i64 0, Value.int .i64 0, Value.int .i64 0, Value.int .i64 0, Value.slice none 0 0] 66)).cell? ⟨w.heap.size + 1 + 1, 7, none⟩ = some (.int .i64 0) := by simp [go_sem]
  have p8 : (((w.alloc (Obj.cells #[Value.int .i64 x0, Value.int .i64 x1, Value.int .i64 x2, Value.slice a3 n3 c3, Value.int .i64 x4, Value.int .i64 x5, Value.int .i64 x6, Value.int .i64 x7, Value.int .i64 x8, Value.slice a9 n9 c9] 54)).alloc (Obj.cells #[Value.int .i64 0, Value.int .i64 0, Value.int .i64 0, Value.slice none 0 0, Value.int .i64 0, Value.int .i64 0, Value.int .i64 0, Value.int .i64 0, Value.int .i64 0, Value.slice none 0 0] 66)).alloc (Obj.cells #[Value.int .i64 x0, Value.int .i64 x1, Value.int .i64 x2, Value.slice none 0 0, Value.int .i64 0, Value.int .i64 0, Value.int .i64 0, Value.int .i64 0, Value.int .i64 0, Value.slice none 0 0] 66)).cell? ⟨w.heap.size + 1 + 1, 8, none⟩ = some (.int .i64 0) := by simp [go_sem]
  have p9 : (((w.alloc (Obj.cells #[Value.int .i64 x0, Value.int .i64 x1, Value.int .i64 x2, Value.slice a3 n3 c3, Value.int .i64 x4, Value.int .i64 x5, Value.int .i64 x6, Value.int .i64 x7, Value.int .i64 x8, Value.slice a9 n9 c9] 54)).alloc (Obj.cells #[Value.int .i64 0, Value.int .i64 0, Value.int .i64 0, Value.slice none 0 0, Value.int .i64 0, Value.int .i64 0, Value.int .i64 0, Value.int .i64 0, Value.int .i64 0, Value.slice none 0 0] 66)).alloc (Obj.cells #[Value.int .i64 x0, Value.int .i64 x1, Value.int .i64 x2, Value.slice none 0 0, Value.int .i64 0, Value.int .i64 0, Value.int .i64 0, Value.int .i64 0, Value.int .i64 0, Value.slice none 0 0] 66)).cell? ⟨w.heap.size + 1 + 1, 9, none⟩ = some (.slice none 0 0) := by simp [go_sem]
  have fr : ∀ q, (((w.alloc (Obj.cells #[Value.int .i64 x0, Value.int .i64 x1, Value.int .i64 x2, Value.slice a3 n3 c3, Value.int .i64 x4, Value.int .i64 x5, Value.int .i64 x6, Value.int .i64 x7, Value.int .i64 x8, Value.slice a9 n9 c9] 54)).alloc (Obj.cells #[Value.int .i64 0, Value.int .i64 0, Value.int .i64 0, Value.slice none 0 0, Value.int .i64 0, Value.int .i64 0, Value.int .i64 0, Value.int .i64 0, Value.int .i64 0, Value.slice none 0 0] 66)).alloc (Obj.cells #[Value.int .i64 x0, Value.int .i64 x1, Value.int .i64 x2, Value.slice none 0 0, Value.int .i64 0, Value.int .i64 0, Value.int .i64 0, Value.int .i64 0, Value.int .i64 0, Value.slice none 0 0] 66)).frozen? ⟨w.heap.size + 1, q, none⟩ = false := fun q => by simp [go_sem]
  have fp : ∀ q, (((w.alloc (Obj.cells #[Value.int .i64 x0, Value.int .i64 x1, Value.int .i64 x2, Value.slice a3 n3 c3, Value.int .i64 x4, Value.int .i64 x5, Value.int .i64 x6, Value.int .i64 x7, Value.int .i64 x8, Value.slice a9 n9 c9] 54)).alloc (Obj.cells #[Value.int .i64 0, Value.int .i64 0, Value.int .i64 0, Value.slice none 0 0, Value.int .i64 0, Value.int .i64 0, Value.int .i64 0, Value.int .i64 0, Value.int .i64 0, Value.slice none 0 0] 66)).alloc (Obj.cells #[Value.int .i64 x0, Value.int .i64 x1, Value.int .i64 x2, Value.slice none 0 0, Value.int .i64 0, Value.int .i64 0, Value.int .i64 0, Value.int .i64 0, Value.int .i64 0, Value.slice none 0 0] 66)).frozen? ⟨w.heap.size + 1 + 1, q, none⟩ = false := fun q => by simp [go_sem]
  have sz0 : (((w.alloc (Obj.cells #[Value.int .i64 x0, Value.int .i64 x1, Value.int .i64 x2, Value.slice a3 n3 c3, Value.int .i64 x4, Value.int .i64 x5, Value.int .i64 x6, Value.int .i64 x7, Value.int .i64 x8, Value.slice a9 n9 c9] 54)).alloc (Obj.cells #[Value.int .i64 0, Value.int .i64 0, Value.int .i64 0, Value.slice none 0 0, Value.int .i64 0, Value.int .i64 0, Value.int .i64 0, Value.int .i64 0, Value.int .i64 0, Value.slice none 0 0] 66)).alloc (Obj.cells #[Value.int .i64 x0, Value.int .i64 x1, Value.int .i64 x2, Value.slice none 0 0, Value.int .i64 0, Value.int .i64 0, Value.int .i64 0, Value.int .i64 0, Value.int .i64 0, Value.slice none 0 0] 66)).heap.size = w.heap.size + 1 + 1 + 1 := by simp only [World.size_alloc]
  go_enter Try.func29, Try.ntmps29
  go_wp2_with fail
  generalize (((w.alloc (Obj.cells #[Value.int .i64 x0, Value.int .i64 x1, Value.int .i64 x2, Value.slice a3 n3 c3, Value.int .i64 x4, Value.int .i64 x5, Value.int .i64 x6, Value.int .i64 x7, Value.int .i64 x8, Value.slice a9 n9 c9] 54)).alloc (Obj.cells #[Value.int .i64 0, Value.int .i64 0, Value.int .i64 0, Value.slice none 0 0, Value.int .i64 0, Value.int .i64 0, Value.int .i64 0, Value.int .i64 0, Value.int .i64 0, Value.slice none 0 0] 66)).alloc (Obj.cells #[Value.int .i64 x0, Value.int .i64 x1, Value.int .i64 x2, Value.slice none 0 0, Value.int .i64 0, Value.int .i64 0, Value.int .i64 0, Value.int .i64 0, Value.int .i64 0, Value.slice none 0 0] 66)) = u0 at *
  refine (toPathC  a3 n3 c3 z3 B _ (h3.mk M hB (.inr (Nat.le_refl _))) (Nat.le_trans hB M.size) hn3).mono ?_
  rintro e w1 ⟨b3, rfl, o3, g3, m1⟩
  have zt1 := m1.size
  replace k4 := m1.cellAt k4
  replace k5 := m1.cellAt k5
  replace k6 := m1.cellAt k6
  replace k7 := m1.cellAt k7
  replace k8 := m1.cellAt k8
  replace k9 := m1.cellAt k9
  clear k3
  replace r0 := m1.cellAt r0
  replace r1 := m1.cellAt r1
  replace r2 := m1.cellAt r2
  replace r3 := m1.cellAt r3
  replace r4 := m1.cellAt r4
  replace r5 := m1.cellAt r5
  replace r6 := m1.cellAt r6
  replace r7 := m1.cellAt r7
  replace r8 := m1.cellAt r8
  replace r9 := m1.cellAt r9
  replace p0 := m1.cellAt p0
  replace p1 := m1.cellAt p1
  replace p2 := m1.cellAt p2
  replace p3 := m1.cellAt p3
  replace p4 := m1.cellAt p4
  replace p5 := m1.cellAt p5
  replace p6 := m1.cellAt p6
  replace p7 := m1.cellAt p7
  replace p8 := m1.cellAt p8
  replace p9 := m1.cellAt p9
  replace fr := fun q => (m1.frozen (b := w.heap.size + 1) (o := q) (by omega) (.inr (Nat.zero_le _))).trans (fr q)
  replace fp := fun q => (m1.frozen (b := w.heap.size + 1 + 1) (o := q) (by omega) (.inr (Nat.zero_le _))).trans (fp q)
  replace M := M.trans m1
  clear m1
  go_wp2_with fail
  replace p0 := cell_set p0 ⟨w.heap.size + 1 + 1, 3, none⟩ (.slice (some ⟨b3, 0, none⟩) n3 n3) (.inr (by simp))
  replace p1 := cell_set p1 ⟨w.heap.size + 1 + 1, 3, none⟩ (.slice (some ⟨b3, 0, none⟩) n3 n3) (.inr (by simp))
  replace p2 := cell_set p2 ⟨w.heap.size + 1 + 1, 3, none⟩ (.slice (some ⟨b3, 0, none⟩) n3 n3) (.inr (by simp))
  replace p3 := World.cell?_setCell_same _ _ (.slice (some ⟨b3, 0, none⟩) n3 n3) p3
  replace p4 := cell_set p4 ⟨w.heap.size + 1 + 1, 3, none⟩ (.slice (some ⟨b3, 0, none⟩) n3 n3) (.inr (by simp))
  replace p5 := cell_set p5 ⟨w.heap.size + 1 + 1, 3, none⟩ (.slice (some ⟨b3, 0, none⟩) n3 n3) (.inr (by simp))
  replace p6 := cell_set p6 ⟨w.heap.size + 1 + 1, 3, none⟩ (.slice (some ⟨b3, 0, none⟩) n3 n3) (.inr (by simp))
  replace p7 := cell_set p7 ⟨w.heap.size + 1 + 1, 3, none⟩ (.slice (some ⟨b3, 0, none⟩) n3 n3) (.inr (by simp))
  replace p8 := cell_set p8 ⟨w.heap.size + 1 + 1, 3, none⟩ (.slice (some ⟨b3, 0, none⟩) n3 n3) (.inr (by simp))
  replace p9 := cell_set p9 ⟨w.heap.size + 1 + 1, 3, none⟩ (.slice (some ⟨b3, 0, none⟩) n3 n3) (.inr (by simp))
  replace r0 := cell_set r0 ⟨w.heap.size + 1 + 1, 3, none⟩ (.slice (some ⟨b3, 0, none⟩) n3 n3) (.inl (show w.heap.size + 1 + 1 ≠ w.heap.size + 1 from by omega))
  replace r1 := cell_set r1 ⟨w.heap.size + 1 + 1, 3, none⟩ (.slice (some ⟨b3, 0, none⟩) n3 n3) (.inl (show w.heap.size + 1 + 1 ≠ w.heap.size + 1 from by omega))
  replace r2 := cell_set r2 ⟨w.heap.size + 1 + 1, 3, none⟩ (.slice (some ⟨b3, 0, none⟩) n3 n3) (.inl (show w.heap.size + 1 + 1 ≠ w.heap.size + 1 from by omega))
  replace r3 := cell_set r3 ⟨w.heap.size + 1 + 1, 3, none⟩ (.slice (some ⟨b3, 0, none⟩) n3 n3) (.inl (show w.heap.size + 1 + 1 ≠ w.heap.size + 1 from by omega))
  replace r4 := cell_set r4 ⟨w.heap.size + 1 + 1, 3, none⟩ (.slice (some ⟨b3, 0, none⟩) n3 n3) (.inl (show w.heap.size + 1 + 1 ≠ w.heap.size + 1 from by omega))
  replace r5 := cell_set r5 ⟨w.heap.size + 1 + 1, 3, none⟩ (.slice (some ⟨b3, 0, none⟩) n3 n3) (.inl (show w.heap.size + 1 + 1 ≠ w.heap.size + 1 from by omega))
  replace r6 := cell_set r6 ⟨w.heap.size + 1 + 1, 3, none⟩ (.slice (some ⟨b3, 0, none⟩) n3 n3) (.inl (show w.heap.size + 1 + 1 ≠ w.heap.size + 1 from by omega))
  replace r7 := cell_set r7 ⟨w.heap.size + 1 + 1, 3, none⟩ (.slice (some ⟨b3, 0, none⟩) n3 n3) (.inl (show w.heap.size + 1 + 1 ≠ w.heap.size + 1 from by omega))
  replace r8 := cell_set r8 ⟨w.heap.size + 1 + 1, 3, none⟩ (.slice (some ⟨b3, 0, none⟩) n3 n3) (.inl (show w.heap.size + 1 + 1 ≠ w.heap.size + 1 from by omega))
  replace r9 := cell_set r9 ⟨w.heap.size + 1 + 1, 3, none⟩ (.slice (some ⟨b3, 0, none⟩) n3 n3) (.inl (show w.heap.size + 1 + 1 ≠ w.heap.size + 1 from by omega))
  replace k4 := cell_set k4 ⟨w.heap.size + 1 + 1, 3, none⟩ (.slice (some ⟨b3, 0, none⟩) n3 n3) (.inl (show w.heap.size + 1 + 1 ≠ w.heap.size from by omega))
  replace k5 := cell_set k5 ⟨w.heap.size + 1 + 1, 3, none⟩ (.slice (some ⟨b3, 0, none⟩) n3 n3) (.inl (show w.heap.size + 1 + 1 ≠ w.heap.size from by omega))
  replace k6 := cell_set k6 ⟨w.heap.size + 1 + 1, 3, none⟩ (.slice (some ⟨b3, 0, none⟩) n3 n3) (.inl (show w.heap.size + 1 + 1 ≠ w.heap.size from by omega))
  replace k7 := cell_set k7 ⟨w.heap.size + 1 + 1, 3, none⟩ (.slice (some ⟨b3, 0, none⟩) n3 n3) (.inl (show w.heap.size + 1 + 1 ≠ w.heap.size from by omega))
  replace k8 := cell_set k8 ⟨w.heap.size + 1 + 1, 3, none⟩ (.slice (some ⟨b3, 0, none⟩) n3 n3) (.inl (show w.heap.size + 1 + 1 ≠ w.heap.size from by omega))
  replace k9 := cell_set k9 ⟨w.heap.size + 1 + 1, 3, none⟩ (.slice (some ⟨b3, 0, none⟩) n3 n3) (.inl (show w.heap.size + 1 + 1 ≠ w.heap.size from by omega))
  replace fr := fun q => frozen_set (fr q) ⟨w.heap.size + 1 + 1, 3, none⟩ (.slice (some ⟨b3, 0, none⟩) n3 n3)
  replace fp := fun q => frozen_set (fp q) ⟨w.heap.size + 1 + 1, 3, none⟩ (.slice (some ⟨b3, 0, none⟩) n3 n3)
  replace o3 := o3.set ⟨w.heap.size + 1 + 1, 3, none⟩ (.slice (some ⟨b3, 0, none⟩) n3 n3) (.inl (show w.heap.size + 1 + 1 < _ from by omega))
  replace M := M.put ⟨w.heap.size + 1 + 1, 3, none⟩ (.slice (some ⟨b3, 0, none⟩) n3 n3) (show w.heap.size ≤ w.heap.size + 1 + 1 from by omega)
  replace p0 := cell_set p0 ⟨w.heap.size + 1 + 1, 4, none⟩ (.int .i64 x4) (.inr (by simp))
  replace p1 := cell_set p1 ⟨w.heap.size + 1 + 1, 4, none⟩ (.int .i64 x4) (.inr (by simp))
  replace p2 := cell_set p2 ⟨w.heap.size + 1 + 1, 4, none⟩ (.int .i64 x4) (.inr (by simp))
  replace p3 := cell_set p3 ⟨w.heap.size + 1 + 1, 4, none⟩ (.int .i64 x4) (.inr (by simp))
  replace p4 := World.cell?_setCell_same _ _ (.int .i64 x4) p4
  replace p5 := cell_set p5 ⟨w.heap.size + 1 + 1, 4, none⟩ (.int .i64 x4) (.inr (by simp))
  replace p6 := cell_set p6 ⟨w.heap.size + 1 + 1, 4, none⟩ (.int .i64 x4) (.inr (by simp))
  replace p7 := cell_set p7 ⟨w.heap.size + 1 + 1, 4, none⟩ (.int .i64 x4) (.inr (by simp))
  replace p8 := cell_set p8 ⟨w.heap.size + 1 + 1, 4, none⟩ (.int .i64 x4) (.inr (by simp))
  replace p9 := cell_set p9 ⟨w.heap.size + 1 + 1, 4, none⟩ (.int .i64 x4) (.inr (by simp))
  replace r0 := cell_set r0 ⟨w.heap.size + 1 + 1, 4, none⟩ (.int .i64 x4) (.inl (show w.heap.size + 1 + 1 ≠ w.heap.size + 1 from by omega))
  replace r1 := cell_set r1 ⟨w.heap.size + 1 + 1, 4, none⟩ (.int .i64 x4) (.inl (show w.heap.size + 1 + 1 ≠ w.heap.size + 1 from by omega))
  replace r2 := cell_set r2 ⟨w.heap.size + 1 + 1, 4, none⟩ (.int .i64 x4) (.inl (show w.heap.size + 1 + 1 ≠ w.heap.size + 1 from by omega))
  replace r3 := cell_set r3 ⟨w.heap.size + 1 + 1, 4, none⟩ (.int .i64 x4) (.inl (show w.heap.size + 1 + 1 ≠ w.heap.size + 1 from by omega))
  replace r4 := cell_set r4 ⟨w.heap.size + 1 + 1, 4, none⟩ (.int .i64 x4) (.inl (show w.heap.size + 1 + 1 ≠ w.heap.size + 1 from by omega))
  replace r5 := cell_set r5 ⟨w.heap.size + 1 + 1, 4, none⟩ (.int .i64 x4) (.inl (show w.heap.size + 1 + 1 ≠ w.heap.size + 1 from by omega))
  replace r6 := cell_set r6 ⟨w.heap.size + 1 + 1, 4, none⟩ (.int .i64 x4) (.inl (show w.heap.size + 1 + 1 ≠ w.heap.size + 1 from by omega))
  replace r7 := cell_set r7 ⟨w.heap.size + 1 + 1, 4, none⟩ (.int .i64 x4) (.inl (show w.heap.size + 1 + 1 ≠ w.heap.size + 1 from by omega))
  replace r8 := cell_set r8 ⟨w.heap.size + 1 + 1, 4, none⟩ (.int .i64 x4) (.inl (show w.heap.size + 1 + 1 ≠ w.heap.size + 1 from by omega))
  replace r9 := cell_set r9 ⟨w.heap.size + 1 + 1, 4, none⟩ (.int .i64 x4) (.inl (show w.heap.size + 1 + 1 ≠ w.heap.size + 1 from by omega))
  replace k4 := cell_set k4 ⟨w.heap.size + 1 + 1, 4, none⟩ (.int .i64 x4) (.inl (show w.heap.size + 1 + 1 ≠ w.heap.size from by omega))
  replace k5 := cell_set k5 ⟨w.heap.size + 1 + 1, 4, none⟩ (.int .i64 x4) (.inl (show w.heap.size + 1 + 1 ≠ w.heap.size from by omega))
  replace k6 := cell_set k6 ⟨w.heap.size + 1 + 1, 4, none⟩ (.int .i64 x4) (.inl (show w.heap.size + 1 + 1 ≠ w.heap.size from by omega))
  replace k7 := cell_set k7 ⟨w.heap.size + 1 + 1, 4, none⟩ (.int .i64 x4) (.inl (show w.heap.size + 1 + 1 ≠ w.heap.size from by omega))
  replace k8 := cell_set k8 ⟨w.heap.size + 1 + 1, 4, none⟩ (.int .i64 x4) (.inl (show w.heap.size + 1 + 1 ≠ w.heap.size from by omega))
  replace k9 := cell_set k9 ⟨w.heap.size + 1 + 1, 4, none⟩ (.int .i64 x4) (.inl (show w.heap.size + 1 + 1 ≠ w.heap.size from by omega))
  replace fr := fun q => frozen_set (fr q) ⟨w.heap.size + 1 + 1, 4, none⟩ (.int .i64 x4)
  replace fp := fun q => frozen_set (fp q) ⟨w.heap.size + 1 + 1, 4, none⟩ (.int .i64 x4)
  replace o3 := o3.set ⟨w.heap.size + 1 + 1, 4, none⟩ (.int .i64 x4) (.inl (show w.heap.size + 1 + 1 < _ from by omega))
  replace M := M.put ⟨w.heap.size + 1 + 1, 4, none⟩ (.int .i64 x4) (show w.heap.size ≤ w.heap.size + 1 + 1 from by omega)
  replace p0 := cell_set p0 ⟨w.heap.size + 1 + 1, 5, none⟩ (.int .i64 x5) (.inr (by simp))
  replace p1 := cell_set p1 ⟨w.heap.size + 1 + 1, 5, none⟩ (.int .i64 x5) (.inr (by simp))
  replace p2 := cell_set p2 ⟨w.heap.size + 1 + 1, 5, none⟩ (.int .i64 x5) (.inr (by simp))
  replace p3 := cell_set p3 ⟨w.heap.size + 1 + 1, 5, none⟩ (.int .i64 x5) (.inr (by simp))
  replace p4 := cell_set p4 ⟨w.heap.size + 1 + 1, 5, none⟩ (.int .i64 x5) (.inr (by simp))
  replace p5 := World.cell?_setCell_same _ _ (.int .i64 x5) p5
  replace p6 := cell_set p6 ⟨w.heap.size + 1 + 1, 5, none⟩ (.int .i64 x5) (.inr (by simp))
  replace p7 := cell_set p7 ⟨w.heap.size + 1 + 1, 5, none⟩ (.int .i64 x5) (.inr (by simp))
  replace p8 := cell_set p8 ⟨w.heap.size + 1 + 1, 5, none⟩ (.int .i64 x5) (.inr (by simp))
  replace p9 := cell_set p9 ⟨w.heap.size + 1 + 1, 5, none⟩ (.int .i64 x5) (.inr (by simp))
  replace r0 := cell_set r0 ⟨w.heap.size + 1 + 1, 5, none⟩ (.int .i64 x5) (.inl (show w.heap.size + 1 + 1 ≠ w.heap.size + 1 from by omega))
  replace r1 := cell_set r1 ⟨w.heap.size + 1 + 1, 5, none⟩ (.int .i64 x5) (.inl (show w.heap.size + 1 + 1 ≠ w.heap.size + 1 from by omega))
  replace r2 := cell_set r2 ⟨w.heap.size + 1 + 1, 5, none⟩ (.int .i64 x5) (.inl (show w.heap.size + 1 + 1 ≠ w.heap.size + 1 from by omega))
  replace r3 := cell_set r3 ⟨w.heap.size + 1 + 1, 5, none⟩ (.int .i64 x5) (.inl (show w.heap.size + 1 + 1 ≠ w.heap.size + 1 from by omega))
  replace r4 := cell_set r4 ⟨w.heap.size + 1 + 1, 5, none⟩ (.int .i64 x5) (.inl (show w.heap.size + 1 + 1 ≠ w.heap.size + 1 from by omega))
  replace r5 := cell_set r5 ⟨w.heap.size + 1 + 1, 5, none⟩ (.int .i64 x5) (.inl (show w.heap.size + 1 + 1 ≠ w.heap.size + 1 from by omega))
  replace r6 := cell_set r6 ⟨w.heap.size + 1 + 1, 5, none⟩ (.int .i64 x5) (.inl (show w.heap.size + 1 + 1 ≠ w.heap.size + 1 from by omega))
  replace r7 := cell_set r7 ⟨w.heap.size + 1 + 1, 5, none⟩ (.int .i64 x5) (.inl (show w.heap.size + 1 + 1 ≠ w.heap.size + 1 from by omega))
  replace r8 := cell_set r8 ⟨w.heap.size + 1 + 1, 5, none⟩ (.int .i64 x5) (.inl (show w.heap.size + 1 + 1 ≠ w.heap.size + 1 from by omega))
  replace r9 := cell_set r9 ⟨w.heap.size + 1 + 1, 5, none⟩ (.int .i64 x5) (.inl (show w.heap.size + 1 + 1 ≠ w.heap.size + 1 from by omega))
  replace k4 := cell_set k4 ⟨w.heap.size + 1 + 1, 5, none⟩ (.int .i64 x5) (.inl (show w.heap.size + 1 + 1 ≠ w.heap.size from by omega))
  replace k5 := cell_set k5 ⟨w.heap.size + 1 + 1, 5, none⟩ (.int .i64 x5) (.inl (show w.heap.size + 1 + 1 ≠ w.heap.size from by omega))
  replace k6 := cell_set k6 ⟨w.heap.size + 1 + 1, 5, none⟩ (.int .i64 x5) (.inl (show w.heap.size + 1 + 1 ≠ w.heap.size from by omega))
  replace k7 := cell_set k7 ⟨w.heap.size + 1 + 1, 5, none⟩ (.int .i64 x5) (.inl (show w.heap.size + 1 + 1 ≠ w.heap.size from by omega))
  replace k8 := cell_set k8 ⟨w.heap.size + 1 + 1, 5, none⟩ (.int .i64 x5) (.inl (show w.heap.size + 1 + 1 ≠ w.heap.size from by omega))
  replace k9 := cell_set k9 ⟨w.heap.size + 1 + 1, 5, none⟩ (.int .i64 x5) (.inl (show w.heap.size + 1 + 1 ≠ w.heap.size from by omega))
  replace fr := fun q => frozen_set (fr q) ⟨w.heap.size + 1 + 1, 5, none⟩ (.int .i64 x5)
  replace fp := fun q => frozen_set (fp q) ⟨w.heap.size + 1 + 1, 5, none⟩ (.int .i64 x5)
  replace o3 := o3.set ⟨w.heap.size + 1 + 1, 5, none⟩ (.int .i64 x5) (.inl (show w.heap.size + 1 + 1 < _ from by omega))
  replace M := M.put ⟨w.heap.size + 1 + 1, 5, none⟩ (.int .i64 x5) (show w.heap.size ≤ w.heap.size + 1 + 1 from by omega)
  replace p0 := cell_set p0 ⟨w.heap.size + 1 + 1, 6, none⟩ (.int .i64 x6) (.inr (by simp))
  replace p1 := cell_set p1 ⟨w.heap.size + 1 + 1, 6, none⟩ (.int .i64 x6) (.inr (by simp))
  replace p2 := cell_set p2 ⟨w.heap.size + 1 + 1, 6, none⟩ (.int .i64 x6) (.inr (by simp))
  replace p3 := cell_set p3 ⟨w.heap.size + 1 + 1, 6, none⟩ (.int .i64 x6) (.inr (by simp))
  replace p4 := cell_set p4 ⟨w.heap.size + 1 + 1, 6, none⟩ (.int .i64 x6) (.inr (by simp))
  replace p5 := cell_set p5 ⟨w.heap.size + 1 + 1, 6, none⟩ (.int .i64 x6) (.inr (by simp))
  replace p6 := World.cell?_setCell_same _ _ (.int .i64 x6) p6
  replace p7 := cell_set p7 ⟨w.heap.size + 1 + 1, 6, none⟩ (.int .i64 x6) (.inr (by simp))
  replace p8 := cell_set p8 ⟨w.heap.size + 1 + 1, 6, none⟩ (.int .i64 x6) (.inr (by simp))
  replace p9 := cell_set p9 ⟨w.heap.size + 1 + 1, 6, none⟩ (.int .i64 x6) (.inr (by simp))
  replace r0 := cell_set r0 ⟨w.heap.size + 1 + 1, 6, none⟩ (.int .i64 x6) (.inl (show w.heap.size + 1 + 1 ≠ w.heap.size + 1 from by omega))
  replace r1 := cell_set r1 ⟨w.heap.size + 1 + 1, 6, none⟩ (.int .i64 x6) (.inl (show w.heap.size + 1 + 1 ≠ w.heap.size + 1 from by omega))
  replace r2 := cell_set r2 ⟨w.heap.size + 1 + 1, 6, none⟩ (.int .i64 x6) (.inl (show w.heap.size + 1 + 1 ≠ w.heap.size + 1 from by omega))
  replace r3 := cell_set r3 ⟨w.heap.size + 1 + 1, 6, none⟩ (.int .i64 x6) (.inl (show w.heap.size + 1 + 1 ≠ w.heap.size + 1 from by omega))
  replace r4 := cell_set r4 ⟨w.heap.size + 1 + 1, 6, none⟩ (.int .i64 x6) (.inl (show w.heap.size + 1 + 1 ≠ w.heap.size + 1 from by omega))
  replace r5 := cell_set r5 ⟨w.heap.size + 1 + 1, 6, none⟩ (.int .i64 x6) (.inl (show w.heap.size + 1 + 1 ≠ w.heap.size + 1 from by omega))
  replace r6 := cell_set r6 ⟨w.heap.size + 1 + 1, 6, none⟩ (.int .i64 x6) (.inl (show w.heap.size + 1 + 1 ≠ w.heap.size + 1 from by omega))
  replace r7 := cell_set r7 ⟨w.heap.size + 1 + 1, 6, none⟩ (.int .i64 x6) (.inl (show w.heap.size + 1 + 1 ≠ w.heap.size + 1 from by omega))
  replace r8 := cell_set r8 ⟨w.heap.size + 1 + 1, 6, none⟩ (.int .i64 x6) (.inl (show w.heap.size + 1 + 1 ≠ w.heap.size + 1 from by omega))
  replace r9 := cell_set r9 ⟨w.heap.size + 1 + 1, 6, none⟩ (.int .i64 x6) (.inl (show w.heap.size + 1 + 1 ≠ w.heap.size + 1 from by omega))
  replace k4 := cell_set k4 ⟨w.heap.size + 1 + 1, 6, none⟩ (.int .i64 x6) (.inl (show w.heap.size + 1 + 1 ≠ w.heap.size from by omega))
  replace k5 := cell_set k5 ⟨w.heap.size + 1 + 1, 6, none⟩ (.int .i64 x6) (.inl (show w.heap.size + 1 + 1 ≠ w.heap.size from by omega))
  replace k6 := cell_set k6 ⟨w.heap.size + 1 + 1, 6, none⟩ (.int .i64 x6) (.inl (show w.heap.size + 1 + 1 ≠ w.heap.size from by omega))
  replace k7 := cell_set k7 ⟨w.heap.size + 1 + 1, 6, none⟩ (.int .i64 x6) (.inl (show w.heap.size + 1 + 1 ≠ w.heap.size from by omega))
  replace k8 := cell_set k8 ⟨w.heap.size + 1 + 1, 6, none⟩ (.int .i64 x6) (.inl (show w.heap.size + 1 + 1 ≠ w.heap.size from by omega))
  replace k9 := cell_set k9 ⟨w.heap.size + 1 + 1, 6, none⟩ (.int .i64 x6) (.inl (show w.heap.size + 1 + 1 ≠ w.heap.size from by omega))
  replace fr := fun q => frozen_set (fr q) ⟨w.heap.size + 1 + 1, 6, none⟩ (.int .i64 x6)
  replace fp := fun q => frozen_set (fp q) ⟨w.heap.size + 1 + 1, 6, none⟩ (.int .i64 x6)
  replace o3 := o3.set ⟨w.heap.size + 1 + 1, 6, none⟩ (.int .i64 x6) (.inl (show w.heap.size + 1 + 1 < _ from by omega))
  replace M := M.put ⟨w.heap.size + 1 + 1, 6, none⟩ (.int .i64 x6) (show w.heap.size ≤ w.heap.size + 1 + 1 from by omega)
  replace p0 := cell_set p0 ⟨w.heap.size + 1 + 1, 7, none⟩ (.int .i64 x7) (.inr (by simp))
  replace p1 := cell_set p1 ⟨w.heap.size + 1 + 1, 7, none⟩ (.int .i64 x7) (.inr (by simp))
  replace p2 := cell_set p2 ⟨w.heap.size + 1 + 1, 7, none⟩ (.int .i64 x7) (.inr (by simp))
  replace p3 := cell_set p3 ⟨w.heap.size + 1 + 1, 7, none⟩ (.int .i64 x7) (.inr (by simp))
  replace p4 := cell_set p4 ⟨w.heap.size + 1 + 1, 7, none⟩ (.int .i64 x7) (.inr (by simp))
  replace p5 := cell_set p5 ⟨w.heap.size + 1 + 1, 7, none⟩ (.int .i64 x7) (.inr (by simp))
  replace p6 := cell_set p6 ⟨w.heap.size + 1 + 1, 7, none⟩ (.int .i64 x7) (.inr (by simp))
  replace p7 := World.cell?_setCell_same _ _ (.int .i64 x7) p7
  replace p8 := cell_set p8 ⟨w.heap.size + 1 + 1, 7, none⟩ (.int .i64 x7) (.inr (by simp))
  replace p9 := cell_set p9 ⟨w.heap.size + 1 + 1, 7, none⟩ (.int .i64 x7) (.inr (by simp))
  replace r0 := cell_set r0 ⟨w.heap.size + 1 + 1, 7, none⟩ (.int .i64 x7) (.inl (show w.heap.size + 1 + 1 ≠ w.heap.size + 1 from by omega))
  replace r1 := cell_set r1 ⟨w.heap.size + 1 + 1, 7, none⟩ (.int .i64 x7) (.inl (show w.heap.size + 1 + 1 ≠ w.heap.size + 1 from by omega))
  replace r2 := cell_set r2 ⟨w.heap.size + 1 + 1, 7, none⟩ (.int .i64 x7) (.inl (show w.heap.size + 1 + 1 ≠ w.heap.size + 1 from by omega))
  replace r3 := cell_set r3 ⟨w.heap.size + 1 + 1, 7, none⟩ (.int .i64 x7) (.inl (show w.heap.size + 1 + 1 ≠ w.heap.size + 1 from by omega))
  replace r4 := cell_set r4 ⟨w.heap.size + 1 + 1, 7, none⟩ (.int .i64 x7) (.inl (show w.heap.size + 1 + 1 ≠ w.heap.size + 1 from by omega))
  replace r5 := cell_set r5 ⟨w.heap.size + 1 + 1, 7, none⟩ (.int .i64 x7) (.inl (show w.heap.size + 1 + 1 ≠ w.heap.size + 1 from by omega))
  replace r6 := cell_set r6 ⟨w.heap.size + 1 + 1, 7, none⟩ (.int .i64 x7) (.inl (show w.heap.size + 1 + 1 ≠ w.heap.size + 1 from by omega))
  replace r7 := cell_set r7 ⟨w.heap.size + 1 + 1, 7, none⟩ (.int .i64 x7) (.inl (show w.heap.size + 1 + 1 ≠ w.heap.size + 1 from by omega))
  replace r8 := cell_set r8 ⟨w.heap.size + 1 + 1, 7, none⟩ (.int .i64 x7) (.inl (show w.heap.size + 1 + 1 ≠ w.heap.size + 1 from by omega))
  replace r9 := cell_set r9 ⟨w.heap.size + 1 + 1, 7, none⟩ (.int .i64 x7) (.inl (show w.heap.size + 1 + 1 ≠ w.heap.size + 1 from by omega))
  replace k4 := cell_set k4 ⟨w.heap.size + 1 + 1, 7, none⟩ (.int .i64 x7) (.inl (show w.heap.size + 1 + 1 ≠ w.heap.size from by omega))
  replace k5 := cell_set k5 ⟨w.heap.size + 1 + 1, 7, none⟩ (.int .i64 x7) (.inl (show w.heap.size + 1 + 1 ≠ w.heap.size from by omega))
  replace k6 := cell_set k6 ⟨w.heap.size + 1 + 1, 7, none⟩ (.int .i64 x7) (.inl (show w.heap.size + 1 + 1 ≠ w.heap.size from by omega))
  replace k7 := cell_set k7 ⟨w.heap.size + 1 + 1, 7, none⟩ (.int .i64 x7) (.inl (show w.heap.size + 1 + 1 ≠ w.heap.size from by omega))
  replace k8 := cell_set k8 ⟨w.heap.size + 1 + 1, 7, none⟩ (.int .i64 x7) (.inl (show w.heap.size + 1 + 1 ≠ w.heap.size from by omega))
  replace k9 := cell_set k9 ⟨w.heap.size + 1 + 1, 7, none⟩ (.int .i64 x7) (.inl (show w.heap.size + 1 + 1 ≠ w.heap.size from by omega))
  replace fr := fun q => frozen_set (fr q) ⟨w.heap.size + 1 + 1, 7, none⟩ (.int .i64 x7)
  replace fp := fun q => frozen_set (fp q) ⟨w.heap.size + 1 + 1, 7, none⟩ (.int .i64 x7)
  replace o3 := o3.set ⟨w.heap.size + 1 + 1, 7, none⟩ (.int .i64 x7) (.inl (show w.heap.size + 1 + 1 < _ from by omega))
  replace M := M.put ⟨w.heap.size + 1 + 1, 7, none⟩ (.int .i64 x7) (show w.heap.size ≤ w.heap.size + 1 + 1 from by omega)
  replace p0 := cell_set p0 ⟨w.heap.size + 1 + 1, 8, none⟩ (.int .i64 x8) (.inr (by simp))
  replace p1 := cell_set p1 ⟨w.heap.size + 1 + 1, 8, none⟩ (.int .i64 x8) (.inr (by simp))
  replace p2 := cell_set p2 ⟨w.heap.size + 1 + 1, 8, none⟩ (.int .i64 x8) (.inr (by simp))
  replace p3 := cell_set p3 ⟨w.heap.size + 1 + 1, 8, none⟩ (.int .i64 x8) (.inr (by simp))
  replace p4 := cell_set p4 ⟨w.heap.size + 1 + 1, 8, none⟩ (.int .i64 x8) (.inr (by simp))
  replace p5 := cell_set p5 ⟨w.heap.size + 1 + 1, 8, none⟩ (.int .i64 x8) (.inr (by simp))
  replace p6 := cell_set p6 ⟨w.heap.size + 1 + 1, 8, none⟩ (.int .i64 x8) (.inr (by simp))
  replace p7 := cell_set p7 ⟨w.heap.size + 1 + 1, 8, none⟩ (.int .i64 x8) (.inr (by simp))
  replace p8 := World.cell?_setCell_same _ _ (.int .i64 x8) p8
  replace p9 := cell_set p9 ⟨w.heap.size + 1 + 1, 8, none⟩ (.int .i64 x8) (.inr (by simp))
  replace r0 := cell_set r0 ⟨w.heap.size + 1 + 1, 8, none⟩ (.int .i64 x8) (.inl (show w.heap.size + 1 + 1 ≠ w.heap.size + 1 from by omega))
  replace r1 := cell_set r1 ⟨w.heap.size + 1 + 1, 8, none⟩ (.int .i64 x8) (.inl (show w.heap.size + 1 + 1 ≠ w.heap.size + 1 from by omega))
  replace r2 := cell_set r2 ⟨w.heap.size + 1 + 1, 8, none⟩ (.int .i64 x8) (.inl (show w.heap.size + 1 + 1 ≠ w.heap.size + 1 from by omega))
  replace r3 := cell_set r3 ⟨w.heap.size + 1 + 1, 8, none⟩ (.int .i64 x8) (.inl (show w.heap.size + 1 + 1 ≠ w.heap.size + 1 from by omega))
  replace r4 := cell_set r4 ⟨w.heap.size + 1 + 1, 8, none⟩ (.int .i64 x8) (.inl (show w.heap.size + 1 + 1 ≠ w.heap.size + 1 from by omega))
  replace r5 := cell_set r5 ⟨w.heap.size + 1 + 1, 8, none⟩ (.int .i64 x8) (.inl (show w.heap.size + 1 + 1 ≠ w.heap.size + 1 from by omega))
  replace r6 := cell_set r6 ⟨w.heap.size + 1 + 1, 8, none⟩ (.int .i64 x8) (.inl (show w.heap.size + 1 + 1 ≠ w.heap.size + 1 from by omega))
  replace r7 := cell_set r7 ⟨w.heap.size + 1 + 1, 8, none⟩ (.int .i64 x8) (.inl (show w.heap.size + 1 + 1 ≠ w.heap.size + 1 from by omega))
  replace r8 := cell_set r8 ⟨w.heap.size + 1 + 1, 8, none⟩ (.int .i64 x8) (.inl (show w.heap.size + 1 + 1 ≠ w.heap.size + 1 from by omega))
  replace r9 := cell_set r9 ⟨w.heap.size + 1 + 1, 8, none⟩ (.int .i64 x8) (.inl (show w.heap.size + 1 + 1 ≠ w.heap.size + 1 from by omega))
  replace k4 := cell_set k4 ⟨w.heap.size + 1 + 1, 8, none⟩ (.int .i64 x8) (.inl (show w.heap.size + 1 + 1 ≠ w.heap.size from by omega))
  replace k5 := cell_set k5 ⟨w.heap.size + 1 + 1, 8, none⟩ (.int .i64 x8) (.inl (show w.heap.size + 1 + 1 ≠ w.heap.size from by omega))
  replace k6 := cell_set k6 ⟨w.heap.size + 1 + 1, 8, none⟩ (.int .i64 x8) (.inl (show w.heap.size + 1 + 1 ≠ w.heap.size from by omega))
  replace k7 := cell_set k7 ⟨w.heap.size + 1 + 1, 8, none⟩ (.int .i64 x8) (.inl (show w.heap.size + 1 + 1 ≠ w.heap.size from by omega))
  replace k8 := cell_set k8 ⟨w.heap.size + 1 + 1, 8, none⟩ (.int .i64 x8) (.inl (show w.heap.size + 1 + 1 ≠ w.heap.size from by omega))
  replace k9 := cell_set k9 ⟨w.heap.size + 1 + 1, 8, none⟩ (.int .i64 x8) (.inl (show w.heap.size + 1 + 1 ≠ w.heap.size from by omega))
  replace fr := fun q => frozen_set (fr q) ⟨w.heap.size + 1 + 1, 8, none⟩ (.int .i64 x8)
  replace fp := fun q => frozen_set (fp q) ⟨w.heap.size + 1 + 1, 8, none⟩ (.int .i64 x8)
  replace o3 := o3.set ⟨w.heap.size + 1 + 1, 8, none⟩ (.int .i64 x8) (.inl (show w.heap.size + 1 + 1 < _ from by omega))
  replace M := M.put ⟨w.heap.size + 1 + 1, 8, none⟩ (.int .i64 x8) (show w.heap.size ≤ w.heap.size + 1 + 1 from by omega)
  have zu1 : ((((((w1.setCell ⟨w.heap.size + 1 + 1, 3, none⟩ (.slice (some ⟨b3, 0, none⟩) n3 n3)).setCell ⟨w.heap.size + 1 + 1, 4, none⟩ (.int .i64 x4)).setCell ⟨w.heap.size + 1 + 1, 5, none⟩ (.int .i64 x5)).setCell ⟨w.heap.size + 1 + 1, 6, none⟩ (.int .i64 x6)).setCell ⟨w.heap.size + 1 + 1, 7, none⟩ (.int .i64 x7)).setCell ⟨w.heap.size + 1 + 1, 8, none⟩ (.int .i64 x8)).heap.size = w1.heap.size := by simp [World.setCell]
  generalize ((((((w1.setCell ⟨w.heap.size + 1 + 1, 3, none⟩ (.slice (some ⟨b3, 0, none⟩) n3 n3)).setCell ⟨w.heap.size + 1 + 1, 4, none⟩ (.int .i64 x4)).setCell ⟨w.heap.size + 1 + 1, 5, none⟩ (.int .i64 x5)).setCell ⟨w.heap.size + 1 + 1, 6, none⟩ (.int .i64 x6)).setCell ⟨w.heap.size + 1 + 1, 7, none⟩ (.int .i64 x7)).setCell ⟨w.heap.size + 1 + 1, 8, none⟩ (.int .i64 x8)) = u1 at *
  refine (toByteS a9 n9 c9 B z9 _ (h9.mk M hB (.inr (Nat.le_refl _))) (Nat.le_trans hB M.size) hn9).mono ?_
  rintro e w2 ⟨b9, rfl, o9, m2⟩
  have zt2 := m2.size
  clear k9
  replace r0 := m2.cellAt r0
  replace r1 := m2.cellAt r1
  replace r2 := m2.cellAt r2
  replace r3 := m2.cellAt r3
  replace r4 := m2.cellAt r4
  replace r5 := m2.cellAt r5
  replace r6 := m2.cellAt r6
  replace r7 := m2.cellAt r7
  replace r8 := m2.cellAt r8
  replace r9 := m2.cellAt r9
  replace p0 := m2.cellAt p0
  replace p1 := m2.cellAt p1
  replace p2 := m2.cellAt p2
  replace p3 := m2.cellAt p3
  replace p4 := m2.cellAt p4
  replace p5 := m2.cellAt p5
  replace p6 := m2.cellAt p6
  replace p7 := m2.cellAt p7
  replace p8 := m2.cellAt p8
  replace p9 := m2.cellAt p9
  replace fr := fun q => (m2.frozen (b := w.heap.size + 1) (o := q) (by omega) (.inr (Nat.zero_le _))).trans (fr q)
  replace fp := fun q => (m2.frozen (b := w.heap.size + 1 + 1) (o := q) (by omega) (.inr (Nat.zero_le _))).trans (fp q)
  replace o3 := o3.mk m2 (by omega) (.inr (.inr (Nat.le_refl _)))
  replace M := M.trans m2
  clear m2
  go_wp2_with fail
  replace p0 := cell_set p0 ⟨w.heap.size + 1 + 1, 9, none⟩ (.slice (some ⟨b9, 0, none⟩) n9 n9) (.inr (by simp))
  replace p1 := cell_set p1 ⟨w.heap.size + 1 + 1, 9, none⟩ (.slice (some ⟨b9, 0, none⟩) n9 n9) (.inr (by simp))
  replace p2 := cell_set p2 ⟨w.heap.size + 1 + 1, 9, none⟩ (.slice (some ⟨b9, 0, none⟩) n9 n9) (.inr (by simp))
  replace p3 := cell_set p3 ⟨w.heap.size + 1 + 1, 9, none⟩ (.slice (some ⟨b9, 0, none⟩) n9 n9) (.inr (by simp))
  replace p4 := cell_set p4 ⟨w.heap.size + 1 + 1, 9, none⟩ (.slice (some ⟨b9, 0, none⟩) n9 n9) (.inr (by simp))
  replace p5 := cell_set p5 ⟨w.heap.size + 1 + 1, 9, none⟩ (.slice (some ⟨b9, 0, none⟩) n9 n9) (.inr (by simp))
  replace p6 := cell_set p6 ⟨w.heap.size + 1 + 1, 9, none⟩ (.slice (some ⟨b9, 0, none⟩) n9 n9) (.inr (by simp))
  replace p7 := cell_set p7 ⟨w.heap.size + 1 + 1, 9, none⟩ (.slice (some ⟨b9, 0, none⟩) n9 n9) (.inr (by simp))
  replace p8 := cell_set p8 ⟨w.heap.size + 1 + 1, 9, none⟩ (.slice (some ⟨b9, 0, none⟩) n9 n9) (.inr (by simp))
  replace p9 := World.cell?_setCell_same _ _ (.slice (some ⟨b9, 0, none⟩) n9 n9) p9
  replace r0 := cell_set r0 ⟨w.heap.size + 1 + 1, 9, none⟩ (.slice (some ⟨b9, 0, none⟩) n9 n9) (.inl (show w.heap.size + 1 + 1 ≠ w.heap.size + 1 from by omega))
  replace r1 := cell_set r1 ⟨w.heap.size + 1 + 1, 9, none⟩ (.slice (some ⟨b9, 0, none⟩) n9 n9) (.inl (show w.heap.size + 1 + 1 ≠ w.heap.size + 1 from by omega))
  replace r2 := cell_set r2 ⟨w.heap.size + 1 + 1, 9, none⟩ (.slice (some ⟨b9, 0, none⟩) n9 n9) (.inl (show w.heap.size + 1 + 1 ≠ w.heap.size + 1 from by omega))
  replace r3 := cell_set r3 ⟨w.heap.size + 1 + 1, 9, none⟩ (.slice (some ⟨b9, 0, none⟩) n9 n9) (.inl (show w.heap.size + 1 + 1 ≠ w.heap.size + 1 from by omega))
  replace r4 := cell_set r4 ⟨w.heap.size + 1 + 1, 9, none⟩ (.slice (some ⟨b9, 0, none⟩) n9 n9) (.inl (show w.heap.size + 1 + 1 ≠ w.heap.size + 1 from by omega))
  replace r5 := cell_set r5 ⟨w.heap.size + 1 + 1, 9, none⟩ (.slice (some ⟨b9, 0, none⟩) n9 n9) (.inl (show w.heap.size + 1 + 1 ≠ w.heap.size + 1 from by omega))
  replace r6 := cell_set r6 ⟨w.heap.size + 1 + 1, 9, none⟩ (.slice (some ⟨b9, 0, none⟩) n9 n9) (.inl (show w.heap.size + 1 + 1 ≠ w.heap.size + 1 from by omega))
  replace r7 := cell_set r7 ⟨w.heap.size + 1 + 1, 9, none⟩ (.slice (some ⟨b9, 0, none⟩) n9 n9) (.inl (show w.heap.size + 1 + 1 ≠ w.heap.size + 1 from by omega))
  replace r8 := cell_set r8 ⟨w.heap.size + 1 + 1, 9, none⟩ (.slice (some ⟨b9, 0, none⟩) n9 n9) (.inl (show w.heap.size + 1 + 1 ≠ w.heap.size + 1 from by omega))
  replace r9 := cell_set r9 ⟨w.heap.size + 1 + 1, 9, none⟩ (.slice (some ⟨b9, 0, none⟩) n9 n9) (.inl (show w.heap.size + 1 + 1 ≠ w.heap.size + 1 from by omega))
  replace fr := fun q => frozen_set (fr q) ⟨w.heap.size + 1 + 1, 9, none⟩ (.slice (some ⟨b9, 0, none⟩) n9 n9)
  replace fp := fun q => frozen_set (fp q) ⟨w.heap.size + 1 + 1, 9, none⟩ (.slice (some ⟨b9, 0, none⟩) n9 n9)
  replace o3 := o3.set ⟨w.heap.size + 1 + 1, 9, none⟩ (.slice (some ⟨b9, 0, none⟩) n9 n9) (.inl (show w.heap.size + 1 + 1 < _ from by omega))
  replace o9 := o9.set ⟨w.heap.size + 1 + 1, 9, none⟩ (.slice (some ⟨b9, 0, none⟩) n9 n9) (.inl (show w.heap.size + 1 + 1 < _ from by omega))
  replace M := M.put ⟨w.heap.size + 1 + 1, 9, none⟩ (.slice (some ⟨b9, 0, none⟩) n9 n9) (show w.heap.size ≤ w.heap.size + 1 + 1 from by omega)
  replace r0 := World.cell?_setCell_same _ _ (.int .i64 x0) r0
  replace r1 := cell_set r1 ⟨w.heap.size + 1, 0, none⟩ (.int .i64 x0) (.inr (by simp))
  replace r2 := cell_set r2 ⟨w.heap.size + 1, 0, none⟩ (.int .i64 x0) (.inr (by simp))
  replace r3 := cell_set r3 ⟨w.heap.size + 1, 0, none⟩ (.int .i64 x0) (.inr (by simp))
  replace r4 := cell_set r4 ⟨w.heap.size + 1, 0, none⟩ (.int .i64 x0) (.inr (by simp))
  replace r5 := cell_set r5 ⟨w.heap.size + 1, 0, none⟩ (.int .i64 x0) (.inr (by simp))
  replace r6 := cell_set r6 ⟨w.heap.size + 1, 0, none⟩ (.int .i64 x0) (.inr (by simp))
  replace r7 := cell_set r7 ⟨w.heap.size + 1, 0, none⟩ (.int .i64 x0) (.inr (by simp))
  replace r8 := cell_set r8 ⟨w.heap.size + 1, 0, none⟩ (.int .i64 x0) (.inr (by simp))
  replace r9 := cell_set r9 ⟨w.heap.size + 1, 0, none⟩ (.int .i64 x0) (.inr (by simp))
  replace o3 := o3.set ⟨w.heap.size + 1, 0, none⟩ (.int .i64 x0) (.inl (show w.heap.size + 1 < _ from by omega))
  replace o9 := o9.set ⟨w.heap.size + 1, 0, none⟩ (.int .i64 x0) (.inl (show w.heap.size + 1 < _ from by omega))
  replace M := M.put ⟨w.heap.size + 1, 0, none⟩ (.int .i64 x0) (show w.heap.size ≤ w.heap.size + 1 from by omega)
  replace r0 := cell_set r0 ⟨w.heap.size + 1, 1, none⟩ (.int .i64 x1) (.inr (by simp))
  replace r1 := World.cell?_setCell_same _ _ (.int .i64 x1) r1
  replace r2 := cell_set r2 ⟨w.heap.size + 1, 1, none⟩ (.int .i64 x1) (.inr (by simp))
  replace r3 := cell_set r3 ⟨w.heap.size + 1, 1, none⟩ (.int .i64 x1) (.inr (by simp))
  replace r4 := cell_set r4 ⟨w.heap.size + 1, 1, none⟩ (.int .i64 x1) (.inr (by simp))
  replace r5 := cell_set r5 ⟨w.heap.size + 1, 1, none⟩ (.int .i64 x1) (.inr (by simp))
  replace r6 := cell_set r6 ⟨w.heap.size + 1, 1, none⟩ (.int .i64 x1) (.inr (by simp))
  replace r7 := cell_set r7 ⟨w.heap.size + 1, 1, none⟩ (.int .i64 x1) (.inr (by simp))
  replace r8 := cell_set r8 ⟨w.heap.size + 1, 1, none⟩ (.int .i64 x1) (.inr (by simp))
  replace r9 := cell_set r9 ⟨w.heap.size + 1, 1, none⟩ (.int .i64 x1) (.inr (by simp))
  replace o3 := o3.set ⟨w.heap.size + 1, 1, none⟩ (.int .i64 x1) (.inl (show w.heap.size + 1 < _ from by omega))
  replace o9 := o9.set ⟨w.heap.size + 1, 1, none⟩ (.int .i64 x1) (.inl (show w.heap.size + 1 < _ from by omega))
  replace M := M.put ⟨w.heap.size + 1, 1, none⟩ (.int .i64 x1) (show w.heap.size ≤ w.heap.size + 1 from by omega)
  replace r0 := cell_set r0 ⟨w.heap.size + 1, 2, none⟩ (.int .i64 x2) (.inr (by simp))
  replace r1 := cell_set r1 ⟨w.heap.size + 1, 2, none⟩ (.int .i64 x2) (.inr (by simp))
  replace r2 := World.cell?_setCell_same _ _ (.int .i64 x2) r2
  replace r3 := cell_set r3 ⟨w.heap.size + 1, 2, none⟩ (.int .i64 x2) (.inr (by simp))
  replace r4 := cell_set r4 ⟨w.heap.size + 1, 2, none⟩ (.int .i64 x2) (.inr (by simp))
  replace r5 := cell_set r5 ⟨w.heap.size + 1, 2, none⟩ (.int .i64 x2) (.inr (by simp))
  replace r6 := cell_set r6 ⟨w.heap.size + 1, 2, none⟩ (.int .i64 x2) (.inr (by simp))
  replace r7 := cell_set r7 ⟨w.heap.size + 1, 2, none⟩ (.int .i64 x2) (.inr (by simp))
  replace r8 := cell_set r8 ⟨w.heap.size + 1, 2, none⟩ (.int .i64 x2) (.inr (by simp))
  replace r9 := cell_set r9 ⟨w.heap.size + 1, 2, none⟩ (.int .i64 x2) (.inr (by simp))
  replace o3 := o3.set ⟨w.heap.size + 1, 2, none⟩ (.int .i64 x2) (.inl (show w.heap.size + 1 < _ from by omega))
  replace o9 := o9.set ⟨w.heap.size + 1, 2, none⟩ (.int .i64 x2) (.inl (show w.heap.size + 1 < _ from by omega))
  replace M := M.put ⟨w.heap.size + 1, 2, none⟩ (.int .i64 x2) (show w.heap.size ≤ w.heap.size + 1 from by omega)
  replace r0 := cell_set r0 ⟨w.heap.size + 1, 3, none⟩ (.slice (some ⟨b3, 0, none⟩) n3 n3) (.inr (by simp))
  replace r1 := cell_set r1 ⟨w.heap.size + 1, 3, none⟩ (.slice (some ⟨b3, 0, none⟩) n3 n3) (.inr (by simp))
  replace r2 := cell_set r2 ⟨w.heap.size + 1, 3, none⟩ (.slice (some ⟨b3, 0, none⟩) n3 n3) (.inr (by simp))
  replace r3 := World.cell?_setCell_same _ _ (.slice (some ⟨b3, 0, none⟩) n3 n3) r3
  replace r4 := cell_set r4 ⟨w.heap.size + 1, 3, none⟩ (.slice (some ⟨b3, 0, none⟩) n3 n3) (.inr (by simp))
  replace r5 := cell_set r5 ⟨w.heap.size + 1, 3, none⟩ (.slice (some ⟨b3, 0, none⟩) n3 n3) (.inr (by simp))
  replace r6 := cell_set r6 ⟨w.heap.size + 1, 3, none⟩ (.slice (some ⟨b3, 0, none⟩) n3 n3) (.inr (by simp))
  replace r7 := cell_set r7 ⟨w.heap.size + 1, 3, none⟩ (.slice (some ⟨b3, 0, none⟩) n3 n3) (.inr (by simp))
  replace r8 := cell_set r8 ⟨w.heap.size + 1, 3, none⟩ (.slice (some ⟨b3, 0, none⟩) n3 n3) (.inr (by simp))
  replace r9 := cell_set r9 ⟨w.heap.size + 1, 3, none⟩ (.slice (some ⟨b3, 0, none⟩) n3 n3) (.inr (by simp))
  replace o3 := o3.set ⟨w.heap.size + 1, 3, none⟩ (.slice (some ⟨b3, 0, none⟩) n3 n3) (.inl (show w.heap.size + 1 < _ from by omega))
  replace o9 := o9.set ⟨w.heap.size + 1, 3, none⟩ (.slice (some ⟨b3, 0, none⟩) n3 n3) (.inl (show w.heap.size + 1 < _ from by omega))
  replace M := M.put ⟨w.heap.size + 1, 3, none⟩ (.slice (some ⟨b3, 0, none⟩) n3 n3) (show w.heap.size ≤ w.heap.size + 1 from by omega)
  replace r0 := cell_set r0 ⟨w.heap.size + 1, 4, none⟩ (.int .i64 x4) (.inr (by simp))
  replace r1 := cell_set r1 ⟨w.heap.size + 1, 4, none⟩ (.int .i64 x4) (.inr (by simp))
  replace r2 := cell_set r2 ⟨w.heap.size + 1, 4, none⟩ (.int .i64 x4) (.inr (by simp))
  replace r3 := cell_set r3 ⟨w.heap.size + 1, 4, none⟩ (.int .i64 x4) (.inr (by simp))
  replace r4 := World.cell?_setCell_same _ _ (.int .i64 x4) r4
  replace r5 := cell_set r5 ⟨w.heap.size + 1, 4, none⟩ (.int .i64 x4) (.inr (by simp))
  replace r6 := cell_set r6 ⟨w.heap.size + 1, 4, none⟩ (.int .i64 x4) (.inr (by simp))
  replace r7 := cell_set r7 ⟨w.heap.size + 1, 4, none⟩ (.int .i64 x4) (.inr (by simp))
  replace r8 := cell_set r8 ⟨w.heap.size + 1, 4, none⟩ (.int .i64 x4) (.inr (by simp))
  replace r9 := cell_set r9 ⟨w.heap.size + 1, 4, none⟩ (.int .i64 x4) (.inr (by simp))
  replace o3 := o3.set ⟨w.heap.size + 1, 4, none⟩ (.int .i64 x4) (.inl (show w.heap.size + 1 < _ from by omega))
  replace o9 := o9.set ⟨w.heap.size + 1, 4, none⟩ (.int .i64 x4) (.inl (show w.heap.size + 1 < _ from by omega))
  replace M := M.put ⟨w.heap.size + 1, 4, none⟩ (.int .i64 x4) (show w.heap.size ≤ w.heap.size + 1 from by omega)
  replace r0 := cell_set r0 ⟨w.heap.size + 1, 5, none⟩ (.int .i64 x5) (.inr (by simp))
  replace r1 := cell_set r1 ⟨w.heap.size + 1, 5, none⟩ (.int .i64 x5) (.inr (by simp))
  replace r2 := cell_set r2 ⟨w.heap.size + 1, 5, none⟩ (.int .i64 x5) (.inr (by simp))
  replace r3 := cell_set r3 ⟨w.heap.size + 1, 5, none⟩ (.int .i64 x5) (.inr (by simp))
  replace r4 := cell_set r4 ⟨w.heap.size + 1, 5, none⟩ (.int .i64 x5) (.inr (by simp))
  replace r5 := World.cell?_setCell_same _ _ (.int .i64 x5) r5
  replace r6 := cell_set r6 ⟨w.heap.size + 1, 5, none⟩ (.int .i64 x5) (.inr (by simp))
  replace r7 := cell_set r7 ⟨w.heap.size + 1, 5, none⟩ (.int .i64 x5) (.inr (by simp))
  replace r8 := cell_set r8 ⟨w.heap.size + 1, 5, none⟩ (.int .i64 x5) (.inr (by simp))
  replace r9 := cell_set r9 ⟨w.heap.size + 1, 5, none⟩ (.int .i64 x5) (.inr (by simp))
  replace o3 := o3.set ⟨w.heap.size + 1, 5, none⟩ (.int .i64 x5) (.inl (show w.heap.size + 1 < _ from by omega))
  replace o9 := o9.set ⟨w.heap.size + 1, 5, none⟩ (.int .i64 x5) (.inl (show w.heap.size + 1 < _ from by omega))
  replace M := M.put ⟨w.heap.size + 1, 5, none⟩ (.int .i64 x5) (show w.heap.size ≤ w.heap.size + 1 from by omega)
  replace r0 := cell_set r0 ⟨w.heap.size + 1, 6, none⟩ (.int .i64 x6) (.inr (by simp))
  replace r1 := cell_set r1 ⟨w.heap.size + 1, 6, none⟩ (.int .i64 x6) (.inr (by simp))
  replace r2 := cell_set r2 ⟨w.heap.size + 1, 6, none⟩ (.int .i64 x6) (.inr (by simp))
  replace r3 := cell_set r3 ⟨w.heap.size + 1, 6, none⟩ (.int .i64 x6) (.inr (by simp))
  replace r4 := cell_set r4 ⟨w.heap.size + 1, 6, none⟩ (.int .i64 x6) (.inr (by simp))
  replace r5 := cell_set r5 ⟨w.heap.size + 1, 6, none⟩ (.int .i64 x6) (.inr (by simp))
  replace r6 := World.cell?_setCell_same _ _ (.int .i64 x6) r6
  replace r7 := cell_set r7 ⟨w.heap.size + 1, 6, none⟩ (.int .i64 x6) (.inr (by simp))
  replace r8 := cell_set r8 ⟨w.heap.size + 1, 6, none⟩ (.int .i64 x6) (.inr (by simp))
  replace r9 := cell_set r9 ⟨w.heap.size + 1, 6, none⟩ (.int .i64 x6) (.inr (by simp))
  replace o3 := o3.set ⟨w.heap.size + 1, 6, none⟩ (.int .i64 x6) (.inl (show w.heap.size + 1 < _ from by omega))
  replace o9 := o9.set ⟨w.heap.size + 1, 6, none⟩ (.int .i64 x6) (.inl (show w.heap.size + 1 < _ from by omega))
  replace M := M.put ⟨w.heap.size + 1, 6, none⟩ (.int .i64 x6) (show w.heap.size ≤ w.heap.size + 1 from by omega)
  replace r0 := cell_set r0 ⟨w.heap.size + 1, 7, none⟩ (.int .i64 x7) (.inr (by simp))
  replace r1 := cell_set r1 ⟨w.heap.size + 1, 7, none⟩ (.int .i64 x7) (.inr (by simp))
  replace r2 := cell_set r2 ⟨w.heap.size + 1, 7, none⟩ (.int .i64 x7) (.inr (by simp))
  replace r3 := cell_set r3 ⟨w.heap.size + 1, 7, none⟩ (.int .i64 x7) (.inr (by simp))
  replace r4 := cell_set r4 ⟨w.heap.size + 1, 7, none⟩ (.int .i64 x7) (.inr (by simp))
  replace r5 := cell_set r5 ⟨w.heap.size + 1, 7, none⟩ (.int .i64 x7) (.inr (by simp))
  replace r6 := cell_set r6 ⟨w.heap.size + 1, 7, none⟩ (.int .i64 x7) (.inr (by simp))
  replace r7 := World.cell?_setCell_same _ _ (.int .i64 x7) r7
  replace r8 := cell_set r8 ⟨w.heap.size + 1, 7, none⟩ (.int .i64 x7) (.inr (by simp))
  replace r9 := cell_set r9 ⟨w.heap.size + 1, 7, none⟩ (.int .i64 x7) (.inr (by simp))
  replace o3 := o3.set ⟨w.heap.size + 1, 7, none⟩ (.int .i64 x7) (.inl (show w.heap.size + 1 < _ from by omega))
  replace o9 := o9.set ⟨w.heap.size + 1, 7, none⟩ (.int .i64 x7) (.inl (show w.heap.size + 1 < _ from by omega))
  replace M := M.put ⟨w.heap.size + 1, 7, none⟩ (.int .i64 x7) (show w.heap.size ≤ w.heap.size + 1 from by omega)
  replace r0 := cell_set r0 ⟨w.heap.size + 1, 8, none⟩ (.int .i64 x8) (.inr (by simp))
  replace r1 := cell_set r1 ⟨w.heap.size + 1, 8, none⟩ (.int .i64 x8) (.inr (by simp))
  replace r2 := cell_set r2 ⟨w.heap.size + 1, 8, none⟩ (.int .i64 x8) (.inr (by simp))
  replace r3 := cell_set r3 ⟨w.heap.size + 1, 8, none⟩ (.int .i64 x8) (.inr (by simp))
  replace r4 := cell_set r4 ⟨w.heap.size + 1, 8, none⟩ (.int .i64 x8) (.inr (by simp))
  replace r5 := cell_set r5 ⟨w.heap.size + 1, 8, none⟩ (.int .i64 x8) (.inr (by simp))
  replace r6 := cell_set r6 ⟨w.heap.size + 1, 8, none⟩ (.int .i64 x8) (.inr (by simp))
  replace r7 := cell_set r7 ⟨w.heap.size + 1, 8, none⟩ (.int .i64 x8) (.inr (by simp))
  replace r8 := World.cell?_setCell_same _ _ (.int .i64 x8) r8
  replace r9 := cell_set r9 ⟨w.heap.size + 1, 8, none⟩ (.int .i64 x8) (.inr (by simp))
  replace o3 := o3.set ⟨w.heap.size + 1, 8, none⟩ (.int .i64 x8) (.inl (show w.heap.size + 1 < _ from by omega))
  replace o9 := o9.set ⟨w.heap.size + 1, 8, none⟩ (.int .i64 x8) (.inl (show w.heap.size + 1 < _ from by omega))
  replace M := M.put ⟨w.heap.size + 1, 8, none⟩ (.int .i64 x8) (show w.heap.size ≤ w.heap.size + 1 from by omega)
  replace r0 := cell_set r0 ⟨w.heap.size + 1, 9, none⟩ (.slice (some ⟨b9, 0, none⟩) n9 n9) (.inr (by simp))
  replace r1 := cell_set r1 ⟨w.heap.size + 1, 9, none⟩ (.slice (some ⟨b9, 0, none⟩) n9 n9) (.inr (by simp))
  replace r2 := cell_set r2 ⟨w.heap.size + 1, 9, none⟩ (.slice (some ⟨b9, 0, none⟩) n9 n9) (.inr (by simp))
  replace r3 := cell_set r3 ⟨w.heap.size + 1, 9, none⟩ (.slice (some ⟨b9, 0, none⟩) n9 n9) (.inr (by simp))
  replace r4 := cell_set r4 ⟨w.heap.size + 1, 9, none⟩ (.slice (some ⟨b9, 0, none⟩) n9 n9) (.inr (by simp))
  replace r5 := cell_set r5 ⟨w.heap.size + 1, 9, none⟩ (.slice (some ⟨b9, 0, none⟩) n9 n9) (.inr (by simp))
  replace r6 := cell_set r6 ⟨w.heap.size + 1, 9, none⟩ (.slice (some ⟨b9, 0, none⟩) n9 n9) (.inr (by simp))
  replace r7 := cell_set r7 ⟨w.heap.size + 1, 9, none⟩ (.slice (some ⟨b9, 0, none⟩) n9 n9) (.inr (by simp))
  replace r8 := cell_set r8 ⟨w.heap.size + 1, 9, none⟩ (.slice (some ⟨b9, 0, none⟩) n9 n9) (.inr (by simp))
  replace r9 := World.cell?_setCell_same _ _ (.slice (some ⟨b9, 0, none⟩) n9 n9) r9
  replace o3 := o3.set ⟨w.heap.size + 1, 9, none⟩ (.slice (some ⟨b9, 0, none⟩) n9 n9) (.inl (show w.heap.size + 1 < _ from by omega))
  replace o9 := o9.set ⟨w.heap.size + 1, 9, none⟩ (.slice (some ⟨b9, 0, none⟩) n9 n9) (.inl (show w.heap.size + 1 < _ from by omega))
  replace M := M.put ⟨w.heap.size + 1, 9, none⟩ (.slice (some ⟨b9, 0, none⟩) n9 n9) (show w.heap.size ≤ w.heap.size + 1 from by omega)
  clear p0 p1 p2 p3 p4 p5 p6 p7 p8 p9 fr fp
  have zF : (((((((((((w2.setCell ⟨w.heap.size + 1 + 1, 9, none⟩ (.slice (some ⟨b9, 0, none⟩) n9 n9)).setCell ⟨w.heap.size + 1, 0, none⟩ (.int .i64 x0)).setCell ⟨w.heap.size + 1, 1, none⟩ (.int .i64 x1)).setCell ⟨w.heap.size + 1, 2, none⟩ (.int .i64 x2)).setCell ⟨w.heap.size + 1, 3, none⟩ (.slice (some ⟨b3, 0, none⟩) n3 n3)).setCell ⟨w.heap.size + 1, 4, none⟩ (.int .i64 x4)).setCell ⟨w.heap.size + 1, 5, none⟩ (.int .i64 x5)).setCell ⟨w.heap.size + 1, 6, none⟩ (.int .i64 x6)).setCell ⟨w.heap.size + 1, 7, none⟩ (.int .i64 x7)).setCell ⟨w.heap.size + 1, 8, none⟩ (.int .i64 x8)).setCell ⟨w.heap.size + 1, 9, none⟩ (.slice (some ⟨b9, 0, none⟩) n9 n9)).heap.size = w2.heap.size := by simp [World.setCell]
  generalize (((((((((((w2.setCell ⟨w.heap.size + 1 + 1, 9, none⟩ (.slice (some ⟨b9, 0, none⟩) n9 n9)).setCell ⟨w.heap.size + 1, 0, none⟩ (.int .i64 x0)).setCell ⟨w.heap.size + 1, 1, none⟩ (.int .i64 x1)).setCell ⟨w.heap.size + 1, 2, none⟩ (.int .i64 x2)).setCell ⟨w.heap.size + 1, 3, none⟩ (.slice (some ⟨b3, 0, none⟩) n3 n3)).setCell ⟨w.heap.size + 1, 4, none⟩ (.int .i64 x4)).setCell ⟨w.heap.size + 1, 5, none⟩ (.int .i64 x5)).setCell ⟨w.heap.size + 1, 6, none⟩ (.int .i64 x6)).setCell ⟨w.heap.size + 1, 7, none⟩ (.int .i64 x7)).setCell ⟨w.heap.size + 1, 8, none⟩ (.int .i64 x8)).setCell ⟨w.heap.size + 1, 9, none⟩ (.slice (some ⟨b9, 0, none⟩) n9 n9)) = WF at *
  refine bodyPost_ret (v := .agg #[.int .i64 x0, .int .i64 x1, .int .i64 x2, .slice (some ⟨b3, 0, none⟩) n3 n3, .int .i64 x4, .int .i64 x5, .int .i64 x6, .int .i64 x7, .int .i64 x8, .slice (some ⟨b9, 0, none⟩) n9 n9]) (by simp [results, Try.results29, go_sem, r0, r1, r2, r3, r4, r5, r6, r7, r8, r9]) rfl ⟨b3, b9, u1.heap.size, rfl, ?_, ?_, ?_, ?_, M⟩
  · exact o3.wide (by omega) (by omega)
  · exact o9.wide (by omega) (by omega)
  · omega
  · omega

set_option maxRecDepth 100000 in
set_option maxHeartbeats 4000000 in
theorem eqPacketC (x0 : Int) (x1 : Int) (x2 : Int) (x4 : Int) (x5 : Int) (x6 : Int) (x7 : Int) (x8 : Int) (a3 a3' : Option Addr) (n3 c3 c3' : Nat) (z3 : List TPathPart) (a9 a9' : Option Addr) (n9 c9 c9' : Nat) (z9 : List TByte) (B B' : Nat) (w : World) (h3 : HasPathPart w B a3 n3 z3) (h9 : HasByte w B a9 n9 z9) (h3' : HasPathPart w B' a3' n3 z3) (h9' : HasByte w B' a9' n9 z9) (hB : B ≤ w.heap.size) (hB' : B' ≤ w.heap.size) (hn3 : szPathPart z3 n3 ≤ 1048576) (hn9 : n9 ≤ 1048576) :
    Calls Try.prog 32 #[.agg #[.int .i64 x0, .int .i64 x1, .int .i64 x2, .slice a3 n3 c3, .int .i64 x4, .int .i64 x5, .int .i64 x6, .int .i64 x7, .int .i64 x8, .slice a9 n9 c9], .agg #[.int .i64 x0, .int .i64 x1, .int .i64 x2, .slice a3' n3 c3', .int .i64 x4, .int .i64 x5, .int .i64 x6, .int .i64 x7, .int .i64 x8, .slice a9' n9 c9']] w fun e w' => e = .returned (.bool true) ∧ Mk0 w w' := by
  have M := (Mk.alloc w (Obj.cells #[Value.int .i64 x0, Value.int .i64 x1, Value.int .i64 x2, Value.slice a3 n3 c3, Value.int .i64 x4, Value.int .i64 x5, Value.int .i64 x6, Value.int .i64 x7, Value.int .i64 x8, Value.slice a9 n9 c9] 66)).new (Obj.cells #[Value.int .i64 x0, Value.int .i64 x1, Value.int .i64 x2, Value.slice a3' n3 c3', Value.int .i64 x4, Value.int .i64 x5, Value.int .i64 x6, Value.int .i64 x7, Value.int .i64 x8, Value.slice a9' n9 c9'] 66)
  have k3 : ((w.alloc (Obj.cells #[Value.int .i64 x0, Value.int .i64 x1, Value.int .i64 x2, Value.slice a3 n3 c3, Value.int .i64 x4, Value.int .i64 x5, Value.int .i64 x6, Value.int .i64 x7, Value.int .i64 x8, Value.slice a9 n9 c9] 66)).alloc (Obj.cells #[Value.int .i64 x0, Value.int .i64 x1, Value.int .i64 x2, Value.slice a3' n3 c3', Value.int .i64 x4, Value.int .i64 x5, Value.int .i64 x6, Value.int .i64 x7, Value.int .i64 x8, Value.slice a9' n9 c9'] 66)).cell? ⟨w.heap.size, 3, none⟩ = some (.slice a3 n3 c3) := by simp [go_sem]
  have k4 : ((w.alloc (Obj.cells #[Value.int .i64 x0, Value.int .i64 x1, Value.int .i64 x2, Value.slice a3 n3 c3, Value.int .i64 x4, Value.int .i64 x5, Value.int .i64 x6, Value.int .i64 x7, Value.int .i64 x8, Value.slice a9 n9 c9] 66)).alloc (Obj.cells #[Value.int .i64 x0, Value.int .i64 x1, Value.int .i64 x2, Value.slice a3' n3 c3', Value.int .i64 x4, Value.int .i64 x5, Value.int .i64 x6, Value.int .i64 x7, Value.int .i64 x8, Value.slice a9' n9 c9'] 66)).cell? ⟨w.heap.size, 4, none⟩ = some (.int .i64 x4) := by simp [go_sem]
  have k5 : ((w.alloc (Obj.cells #[Value.int .i64 x0, Value.int .i64 x1, Value.int .i64 x2, Value.slice a3 n3 c3, Value.int .i64 x4, Value.int .i64 x5, Value.int .i64 x6, Value.int .i64 x7, Value.int .i64 x8, Value.slice a9 n9 c9] 66)).alloc (Obj.cells #[Value.int .i64 x0, Value.int .i64 x1, Value.int .i64 x2, Value.slice a3' n3 c3', Value.int .i64 x4, Value.int .i64 x5, Value.int .i64 x6, Value.int .i64 x7, Value.int .i64 x8, Value.slice a9' n9 c9'] 66)).cell? ⟨w.heap.size, 5, none⟩ = some (.int .i64 x5) := by simp [go_sem]
  have k6 : ((w.alloc (Obj.cells #[Value.int .i64 x0, Value.int .i64 x1, Value.int .i64 x2, Value.slice a3 n3 c3, Value.int .i64 x4, Value.int .i64 x5, Value.int .i64 x6, Value.int .i64 x7, Value.int .i64 x8, Value.slice a9 n9 c9] 66)).alloc (Obj.cells #[Value.int .i64 x0, Value.int .i64 x1, Value.int .i64 x2, Value.slice a3' n3 c3', Value.int .i64 x4, Value.int .i64 x5, Value.int .i64 x6, Value.int .i64 x7, Value.int .i64 x8, Value.slice a9' n9 c9'] 66)).cell? ⟨w.heap.size, 6, none⟩ = some (.int .i64 x6) := by simp [go_sem]
  have k7 : ((w.alloc (Obj.cells #[Value.int .i64 x0, Value.int .i64 x1, Value.int .i64 x2, Value.slice a3 n3 c3, Value.int .i64 x4, Value.int .i64 x5, Value.int .i64 x6, Value.int .i64 x7, Value.int .i64 x8, Value.slice a9 n9 c9] 66)).alloc (Obj.cells #[Value.int .i64 x0, Value.int .i64 x1, Value.int .i64 x2, Value.slice a3' n3 c3', Value.int .i64 x4, Value.int .i64 x5, Value.int .i64 x6, Value.int .i64 x7, Value.int .i64 x8, Value.slice a9' n9 c9'] 66)).cell? ⟨w.heap.size, 7, none⟩ = some (.int .i64 x7) := by simp [go_sem]
  have k8 : ((w.alloc (Obj.cells #[Value.int .i64 x0, Value.int .i64 x1, Value.int .i64 x2, Value.slice a3 n3 c3, Value.int .i64 x4, Value.int .i64 x5, Value.int .i64 x6, Value.int .i64 x7, Value.int .i64 x8, Value.slice a9 n9 c9] 66)).alloc (Obj.cells #[Value.int .i64 x0, Value.int .i64 x1, Value.int .i64 x2, Value.slice a3' n3 c3', Value.int .i64 x4, Value.int .i64 x5, Value.int .i64 x6, Value.int .i64 x7, Value.int .i64 x8, Value.slice a9' n9 c9'] 66)).cell? ⟨w.heap.size, 8, none⟩ = some (.int .i64 x8) := by simp [go_sem]
  have k9 : ((w.alloc (Obj.cells #[Value.int .i64 x0, Value.int .i64 x1, Value.int .i64 x2, Value.slice a3 n3 c3, Value.int .i64 x4, Value.int .i64 x5, Value.int .i64 x6, Value.int .i64 x7, Value.int .i64 x8, Value.slice a9 n9 c9] 66)).alloc (Obj.cells #[Value.int .i64 x0, Value.int .i64 x1, Value.int .i64 x2, Value.slice a3' n3 c3', Value.int .i64 x4, Value.int .i64 x5, Value.int .i64 x6, Value.int .i64 x7, Value.int .i64 x8, Value.slice a9' n9 c9'] 66)).cell? ⟨w.heap.size, 9, none⟩ = some (.slice a9 n9 c9) := by simp [go_sem]
  have s3 : ((w.alloc (Obj.cells #[Value.int .i64 x0, Value.int .i64 x1, Value.int .i64 x2, Value.slice a3 n3 c3, Value.int .i64 x4, Value.int .i64 x5, Value.int .i64 x6, Value.int .i64 x7, Value.int .i64 x8, Value.slice a9 n9 c9] 66)).alloc (Obj.cells #[Value.int .i64 x0, Value.int .i64 x1, Value.int .i64 x2, Value.slice a3' n3 c3', Value.int .i64 x4, Value.int .i64 x5, Value.int .i64 x6, Value.int .i64 x7, Value.int .i64 x8, Value.slice a9' n9 c9'] 66)).cell? ⟨w.heap.size + 1, 3, none⟩ = some (.slice a3' n3 c3') := by simp [go_sem]
  have s4 : ((w.alloc (Obj.cells #[Value.int .i64 x0, Value.int .i64 x1, Value.int .i64 x2, Value.slice a3 n3 c3, Value.int .i64 x4, Value.int .i64 x5, Value.int .i64 x6, Value.int .i64 x7, Value.int .i64 x8, Value.slice a9 n9 c9] 66)).alloc (Obj.cells #[Value.int .i64 x0, Value.int .i64 x1, Value.int .i64 x2, Value.slice a3' n3 c3', Value.int .i64 x4, Value.int .i64 x5, Value.int .i64 x6, Value.int .i64 x7, Value.int .i64 x8, Value.slice a9' n9 c9'] 66)).cell? ⟨w.heap.size + 1, 4, none⟩ = some (.int .i64 x4) := by simp [go_sem]
  have s5 : ((w.alloc (Obj.cells #[Value.int .i64 x0, Value.int .i64 x1, Value.int .i64 x2, Value.slice a3 n3 c3, Value.int .i64 x4, Value.int .i64 x5, Value.int .i64 x6, Value.int .i64 x7, Value.int .i64 x8, Value.slice a9 n9 c9] 66)).alloc (Obj.cells #[Value.int .i64 x0, Value.int .i64 x1, Value.int .i64 x2, Value.slice a3' n3 c3', Value.int .i64 x4, Value.int .i64 x5, Value.int .i64 x6, Value.int .i64 x7, Value.int .i64 x8, Value.slice a9' n9 c9'] 66)).cell? ⟨w.heap.size + 1, 5, none⟩ = some (.int .i64 x5) := by simp [go_sem]
  have s6 : ((w.alloc (Obj.cells #[Value.int .i64 x0, Value.int .i64 x1, Value.int .i64 x2, Value.slice a3 n3 c3, Value.int .i64 x4, Value.int .i64 x5, Value.int .i64 x6, Value.int .i64 x7, Value.int .i64 x8, Value.slice a9 n9 c9] 66)).alloc (Obj.cells #[Value.int .i64 x0, Value.int .i64 x1, Value.int .i64 x2, Value.slice a3' n3 c3', Value.int .i64 x4, Value.int .i64 x5, Value.int .i64 x6, Value.int .i64 x7, Value.int .i64 x8, Value.slice a9' n9 c9'] 66)).cell? ⟨w.heap.size + 1, 6, none⟩ = some (.int .i64 x6) := by simp [go_sem]
  have s7 : ((w.alloc (Obj.cells #[Value.int .i64 x0, Value.int .i64 x1, Value.int .i64 x2, Value.slice a3 n3 c3, Value.int .i64 x4, Value.int .i64 x5, Value.int .i64 x6, Value.int .i64 x7, Value.int .i64 x8, Value.slice a9 n9 c9] 66)).alloc (Obj.cells #[Value.int .i64 x0, Value.int .i64 x1, Value.int .i64 x2, Value.slice a3' n3 c3', Value.int .i64 x4, Value.int .i64 x5, Value.int .i64 x6, Value.int .i64 x7, Value.int .i64 x8, Value.slice a9' n9 c9'] 66)).cell? ⟨w.heap.size + 1, 7, none⟩ = some (.int .i64 x7) := by simp [go_sem]
  have s8 : ((w.alloc (Obj.cells #[Value.int .i64 x0, Value.int .i64 x1, Value.int .i64 x2, Value.slice a3 n3 c3, Value.int .i64 x4, Value.int .i64 x5, Value.int .i64 x6, Value.int .i64 x7, Value.int .i64 x8, Value.slice a9 n9 c9] 66)).alloc (Obj.cells #[Value.int .i64 x0, Value.int .i64 x1, Value.int .i64 x2, Value.slice a3' n3 c3', Value.int .i64 x4, Value.int .i64 x5, Value.int .i64 x6, Value.int .i64 x7, Value.int .i64 x8, Value.slice a9' n9 c9'] 66)).cell? ⟨w.heap.size + 1, 8, none⟩ = some (.int .i64 x8) := by simp [go_sem]
  have s9 : ((w.alloc (Obj.cells #[Value.int .i64 x0, Value.int .i64 x1, Value.int .i64 x2, Value.slice a3 n3 c3, Value.int .i64 x4, Value.int .i64 x5, Value.int .i64 x6, Value.int .i64 x7, Value.int .i64 x8, Value.slice a9 n9 c9] 66)).alloc (Obj.cells #[Value.int .i64 x0, Value.int .i64 x1, Value.int .i64 x2, Value.slice a3' n3 c3', Value.int .i64 x4, Value.int .i64 x5, Value.int .i64 x6, Value.int .i64 x7, Value.int .i64 x8, Value.slice a9' n9 c9'] 66)).cell? ⟨w.heap.size + 1, 9, none⟩ = some (.slice a9' n9 c9') := by simp [go_sem]
  go_enter Try.func32, Try.ntmps32
  go_wp2_with fail
  generalize ((w.alloc (Obj.cells #[Value.int .i64 x0, Value.int .i64 x1, Value.int .i64 x2, Value.slice a3 n3 c3, Value.int .i64 x4, Value.int .i64 x5, Value.int .i64 x6, Value.int .i64 x7, Value.int .i64 x8, Value.slice a9 n9 c9] 66)).alloc (Obj.cells #[Value.int .i64 x0, Value.int .i64 x1, Value.int .i64 x2, Value.slice a3' n3 c3', Value.int .i64 x4, Value.int .i64 x5, Value.int .i64 x6, Value.int .i64 x7, Value.int .i64 x8, Value.slice a9' n9 c9'] 66)) = u0 at *
  refine (eqPathC  a3 a3' n3 c3 c3' z3 B B' _ (h3.mk M hB (.inr (Nat.le_refl _))) (h3'.mk M hB' (.inr (Nat.le_refl _))) (Nat.le_trans hB M.size) (Nat.le_trans hB' M.size) (by omega)).mono ?_
  rintro e w1 ⟨rfl, m1⟩
  replace k4 := m1.cellAt k4
  replace k5 := m1.cellAt k5
  replace k6 := m1.cellAt k6
  replace k7 := m1.cellAt k7
  replace k8 := m1.cellAt k8
  replace k9 := m1.cellAt k9
  replace s4 := m1.cellAt s4
  replace s5 := m1.cellAt s5
  replace s6 := m1.cellAt s6
  replace s7 := m1.cellAt s7
  replace s8 := m1.cellAt s8
  replace s9 := m1.cellAt s9
  clear k3 s3
  replace M := M.trans m1
  go_wp2_with fail
  refine (eqByteS a9 a9' n9 c9 c9' B B' z9 _ (h9.mk M hB (.inr (Nat.le_refl _))) (h9'.mk M hB' (.inr (Nat.le_refl _))) (Nat.le_trans hB M.size) (Nat.le_trans hB' M.size) (by omega)).mono ?_
  rintro e w2 ⟨rfl, m2⟩
  clear k9 s9
  replace M := M.trans m2
  go_wp2_with fail
  go_ret
  exact ⟨rfl, M⟩

set_option maxRecDepth 100000 in
set_option maxHeartbeats 4000000 in
theorem szPacketC (x0 : Int) (x1 : Int) (x2 : Int) (x4 : Int) (x5 : Int) (x6 : Int) (x7 : Int) (x8 : Int) (a3 : Option Addr) (n3 c3 : Nat) (a9 : Option Addr) (n9 c9 : Nat) (z3 : List TPathPart) (B : Nat) (l : Int) (w : World) (h3 : HasPathPart w B a3 n3 z3) (hB : B ≤ w.heap.size) (hq0 : 0 ≤ l) (hq1 : l ≤ 1048576) (hn : (((szPathPart z3 n3 : Nat)) : Int) + (n9 : Int) ≤ l) :
    Calls Try.prog 26 #[.agg #[.int .i64 x0, .int .i64 x1, .int .i64 x2, .slice a3 n3 c3, .int .i64 x4, .int .i64 x5, .int .i64 x6, .int .i64 x7, .int .i64 x8, .slice a9 n9 c9], .int .i64 l] w fun e w' => ∃ l' : Int, l' = (l - (((szPathPart z3 n3 : Nat)) : Int)) - (n9 : Int) ∧ e = .returned (.int .i64 l') ∧ Mk0 w w' := by
  have M := Mk.alloc w (Obj.cells #[Value.int .i64 x0, Value.int .i64 x1, Value.int .i64 x2, Value.slice a3 n3 c3, Value.int .i64 x4, Value.int .i64 x5, Value.int .i64 x6, Value.int .i64 x7, Value.int .i64 x8, Value.slice a9 n9 c9] 54)
  have k3 : (w.alloc (Obj.cells #[Value.int .i64 x0, Value.int .i64 x1, Value.int .i64 x2, Value.slice a3 n3 c3, Value.int .i64 x4, Value.int .i64 x5, Value.int .i64 x6, Value.int .i64 x7, Value.int .i64 x8, Value.slice a9 n9 c9] 54)).cell? ⟨w.heap.size, 3, none⟩ = some (.slice a3 n3 c3) := by simp [go_sem]
  have k9 : (w.alloc (Obj.cells #[Value.int .i64 x0, Value.int .i64 x1, Value.int .i64 x2, Value.slice a3 n3 c3, Value.int .i64 x4, Value.int .i64 x5, Value.int .i64 x6, Value.int .i64 x7, Value.int .i64 x8, Value.slice a9 n9 c9] 54)).cell? ⟨w.heap.size, 9, none⟩ = some (.slice a9 n9 c9) := by simp [go_sem]
  go_enter Try.func26, Try.ntmps26
  go_wp2_with fail
  generalize w.alloc (Obj.cells #[Value.int .i64 x0, Value.int .i64 x1, Value.int .i64 x2, Value.slice a3 n3 c3, Value.int .i64 x4, Value.int .i64 x5, Value.int .i64 x6, Value.int .i64 x7, Value.int .i64 x8, Value.slice a9 n9 c9] 54) = u0 at *
  refine (szPathC a3 n3 c3 z3 B _ _ (h3.mk M hB (.inr (Nat.le_refl _))) (Nat.le_trans hB M.size) (by omega) (by omega) (by omega)).mono ?_
  rintro e w1 ⟨l1, hl1, rfl, m1⟩
  replace k9 := m1.cellAt k9
  replace M := M.trans m1
  go_wp2_with fail
  refine (szByteSC a9 n9 c9 _ _ (by omega) (by omega) (by omega)).mono ?_
  rintro e w2 ⟨rfl, rfl⟩
  go_wp2_with fail
  go_ret
  exact ⟨_, by omega, rfl, M⟩

set_option maxRecDepth 100000 in
set_option maxHeartbeats 4000000 in
theorem szPacketB (x0 : Int) (x1 : Int) (x2 : Int) (x4 : Int) (x5 : Int) (x6 : Int) (x7 : Int) (x8 : Int) (a3 : Option Addr) (n3 c3 : Nat) (a9 : Option Addr) (n9 c9 : Nat) (z3 : List TPathPart) (B : Nat) (l : Int) (w : World) (h3 : HasPathPart w B a3 n3 z3) (hB : B ≤ w.heap.size) (hq0 : 0 ≤ l) (hq1 : l ≤ 1048576) (hn : l < (((szPathPart z3 n3 : Nat)) : Int) + (n9 : Int)) (hm3 : n3 ≤ 9223372036854775807) (hm9 : n9 ≤ 9223372036854775807) :
    Calls Try.prog 26 #[.agg #[.int .i64 x0, .int .i64 x1, .int .i64 x2, .slice a3 n3 c3, .int .i64 x4, .int .i64 x5, .int .i64 x6, .int .i64 x7, .int .i64 x8, .slice a9 n9 c9], .int .i64 l] w fun e w' => e = .returned (.int .i64 (-1)) ∧ Mk0 w w' := by
  by_cases hp0 : l < (((szPathPart z3 n3 : Nat)) : Int)
  · have M := Mk.alloc w (Obj.cells #[Value.int .i64 x0, Value.int .i64 x1, Value.int .i64 x2, Value.slice a3 n3 c3, Value.int .i64 x4, Value.int .i64 x5, Value.int .i64 x6, Value.int .i64 x7, Value.int .i64 x8, Value.slice a9 n9 c9] 54)
    have k3 : (w.alloc (Obj.cells #[Value.int .i64 x0, Value.int .i64 x1, Value.int .i64 x2, Value.slice a3 n3 c3, Value.int .i64 x4, Value.int .i64 x5, Value.int .i64 x6, Value.int .i64 x7, Value.int .i64 x8, Value.slice a9 n9 c9] 54)).cell? ⟨w.heap.size, 3, none⟩ = some (.slice a3 n3 c3) := by simp [go_sem]
    have k9 : (w.alloc (Obj.cells #[Value.int .i64 x0, Value.int .i64 x1, Value.int .i64 x2, Value.slice a3 n3 c3, Value.int .i64 x4, Value.int .i64 x5, Value.int .i64 x6, Value.int .i64 x7, Value.int .i64 x8, Value.slice a9 n9 c9] 54)).cell? ⟨w.heap.size, 9, none⟩ = some (.slice a9 n9 c9) := by simp [go_sem]
    go_enter Try.func26, Try.ntmps26
    go_wp2_with fail
    generalize w.alloc (Obj.cells #[Value.int .i64 x0, Value.int .i64 x1, Value.int .i64 x2, Value.slice a3 n3 c3, Value.int .i64 x4, Value.int .i64 x5, Value.int .i64 x6, Value.int .i64 x7, Value.int .i64 x8, Value.slice a9 n9 c9] 54) = u0 at *
    refine (szPathB a3 n3 c3 z3 B _ _ (h3.mk M hB (.inr (Nat.le_refl _))) (Nat.le_trans hB M.size) (by omega) (by omega) (by omega) hm3).mono ?_
    rintro e w1 ⟨rfl, m1⟩
    replace k9 := m1.cellAt k9
    replace M := M.trans m1
    go_wp2_with fail
    go_ret
    exact ⟨rfl, M⟩
  have M := Mk.alloc w (Obj.cells #[Value.int .i64 x0, Value.int .i64 x1, Value.int .i64 x2, Value.slice a3 n3 c3, Value.int .i64 x4, Value.int .i64 x5, Value.int .i64 x6, Value.int .i64 x7, Value.int .i64 x8, Value.slice a9 n9 c9] 54)
  have k3 : (w.alloc (Obj.cells #[Value.int .i64 x0, Value.int .i64 x1, Value.int .i64 x2, Value.slice a3 n3 c3, Value.int .i64 x4, Value.int .i64 x5, Value.int .i64 x6, Value.int .i64 x7, Value.int .i64 x8, Value.slice a9 n9 c9] 54)).cell? ⟨w.heap.size, 3, none⟩ = some (.slice a3 n3 c3) := by simp [go_sem]
  have k9 : (w.alloc (Obj.cells #[Value.int .i64 x0, Value.int .i64 x1, Value.int .i64 x2, Value.slice a3 n3 c3, Value.int .i64 x4, Value.int .i64 x5, Value.int .i64 x6, Value.int .i64 x7, Value.int .i64 x8, Value.slice a9 n9 c9] 54)).cell? ⟨w.heap.size, 9, none⟩ = some (.slice a9 n9 c9) := by simp [go_sem]
  go_enter Try.func26, Try.ntmps26
  go_wp2_with fail
  generalize w.alloc (Obj.cells #[Value.int .i64 x0, Value.int .i64 x1, Value.int .i64 x2, Value.slice a3 n3 c3, Value.int .i64 x4, Value.int .i64 x5, Value.int .i64 x6, Value.int .i64 x7, Value.int .i64 x8, Value.slice a9 n9 c9] 54) = u0 at *
  refine (szPathC a3 n3 c3 z3 B _ _ (h3.mk M hB (.inr (Nat.le_refl _))) (Nat.le_trans hB M.size) (by omega) (by omega) (by omega)).mono ?_
  rintro e w1 ⟨l1, hl1, rfl, m1⟩
  replace k9 := m1.cellAt k9
  replace M := M.trans m1
  go_wp2_with fail
  refine (szByteSB a9 n9 c9 _ _ (by omega) (by omega) (by omega) hm9).mono ?_
  rintro e w2 ⟨rfl, rfl⟩
  go_wp2_with fail
  go_ret
  exact ⟨rfl, M⟩

end Go.Proofs.Ytdlafigjkefllaa
