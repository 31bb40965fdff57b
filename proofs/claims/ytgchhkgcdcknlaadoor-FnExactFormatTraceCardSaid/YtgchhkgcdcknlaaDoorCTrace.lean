
/- Trace by value: the laws' copy, equality and size. -/
import Derived.Test.YtgchhkgcdcknlaaDoorCPacket
import Derived.Test.YtgchhkgcdcknlaaDoorZStep
import Derived.Test.YtgchhkgcdcknlaaDoorSStep
import Derived.Deep.CutRange
import Derived.Deep.RegionHeld3
import Derived.BigQuiet
import Derived.Deep.QuietTactic
namespace Go.Proofs.YtgchhkgcdcknlaaDoor
open Go.ChangeShapes Go.WideShapes Go.ChangeAt Go.RowKit
set_option linter.unusedVariables false

set_option maxRecDepth 100000 in
set_option maxHeartbeats 4000000 in
theorem toTraceC (x0 : Int) (x2 : Int) (x3 : Int) (x4 : Int) (x6 : Int) (x7 : Int) (x8 : Int) (x9 : Int) (x10 : Int) (a1 : Option Addr) (n1 c1 : Nat) (z1 : List TStep) (a5 : Option Addr) (n5 c5 : Nat) (z5 : List TPathPart) (a11 : Option Addr) (n11 c11 : Nat) (z11 : List TByte) (B : Nat) (w : World) (h1 : HasStep w B a1 n1 z1) (h5 : HasPathPart w B a5 n5 z5) (h11 : HasByte w B a11 n11 z11) (hB : B ≤ w.heap.size) (hn1 : n1 ≤ 1048576) (hn5 : szPathPart z5 n5 ≤ 1048576) (hn11 : n11 ≤ 1048576) :
    Calls Tryd.prog 19 #[.agg #[.int .i64 x0, .slice a1 n1 c1, .int .i64 x2, .int .i64 x3, .int .i64 x4, .slice a5 n5 c5, .int .i64 x6, .int .i64 x7, .int .i64 x8, .int .i64 x9, .int .i64 x10, .slice a11 n11 c11]] w fun e w' => ∃ b1 b5 b11 m1 m5, e = .returned (.agg #[.int .i64 x0, .slice (some ⟨b1, 0, none⟩) n1 n1, .int .i64 x2, .int .i64 x3, .int .i64 x4, .slice (some ⟨b5, 0, none⟩) n5 n5, .int .i64 x6, .int .i64 x7, .int .i64 x8, .int .i64 x9, .int .i64 x10, .slice (some ⟨b11, 0, none⟩) n11 n11]) ∧ OwnStep w' w.heap.size m1 (some ⟨b1, 0, none⟩) n1 z1 ∧ OwnPathPart w' m1 m5 (some ⟨b5, 0, none⟩) n5 z5 ∧ OwnByte w' m5 w'.heap.size (some ⟨b11, 0, none⟩) n11 z11 ∧ w.heap.size ≤ m1 ∧ m1 ≤ m5 ∧ m5 ≤ w'.heap.size ∧ Mk0 w w' := by
  have M := ((Mk.alloc w (Obj.cells #[Value.int .i64 x0, Value.slice a1 n1 c1, Value.int .i64 x2, Value.int .i64 x3, Value.int .i64 x4, Value.slice a5 n5 c5, Value.int .i64 x6, Value.int .i64 x7, Value.int .i64 x8, Value.int .i64 x9, Value.int .i64 x10, Value.slice a11 n11 c11] 62)).new (Obj.cells #[Value.int .i64 0, Value.slice none 0 0, Value.int .i64 0, Value.int .i64 0, Value.int .i64 0, Value.slice none 0 0, Value.int .i64 0, Value.int .i64 0, Value.int .i64 0, Value.int .i64 0, Value.int .i64 0, Value.slice none 0 0] 72)).new (Obj.cells #[Value.int .i64 x0, Value.slice none 0 0, Value.int .i64 0, Value.int .i64 0, Value.int .i64 0, Value.slice none 0 0, Value.int .i64 0, Value.int .i64 0, Value.int .i64 0, Value.int .i64 0, Value.int .i64 0, Value.slice none 0 0] 72)
  have k1 : (((w.alloc (Obj.cells #[Value.int .i64 x0, Value.slice a1 n1 c1, Value.int .i64 x2, Value.int .i64 x3, Value.int .i64 x4, Value.slice a5 n5 c5, Value.int .i64 x6, Value.int .i64 x7, Value.int .i64 x8, Value.int .i64 x9, Value.int .i64 x10, Value.slice a11 n11 c11] 62)).alloc (Obj.cells #[Value.int .i64 0, Value.slice none 0 0, Value.int .i64 0, Value.int .i64 0, Value.int .i64 0, Value.slice none 0 0, Value.int .i64 0, Value.int .i64 0, Value.int .i64 0, Value.int .i64 0, Value.int .i64 0, Value.slice none 0 0] 72)).alloc (Obj.cells #[Value.int .i64 x0, Value.slice none 0 0, Value.int .i64 0, Value.int .i64 0, Value.int .i64 0, Value.slice none 0 0, Value.int .i64 0, Value.int .i64 0, Value.int .i64 0, Value.int .i64 0, Value.int .i64 0, Value.slice none 0 0] 72)).cell? ⟨w.heap.size, 1, none⟩ = some (.slice a1 n1 c1) := by simp [go_sem]
  have k2 : (((w.alloc (Obj.cells #[Value.int .i64 x0, Value.slice a1 n1 c1, Value.int .i64 x2, Value.int .i64 x3, Value.int .i64 x4, Value.slice a5 n5 c5, Value.int .i64 x6, Value.int .i64 x7, Value.int .i64 x8, Value.int .i64 x9, Value.int .i64 x10, Value.slice a11 n11 c11] 62)).alloc (Obj.cells #[Value.int .i64 0, Value.slice none 0 0, Value.int .i64 0, Value.int .i64 0, Value.int .i64 0, Value.slice none 0 0, Value.int .i64 0, Value.int .i64 0, Value.int .i64 0, Value.int .i64 0, Value.int .i64 0, Value.slice none 0 0] 72)).alloc (Obj.cells #[Value.int .i64 x0, Value.slice none 0 0, Value.int .i64 0, Value.int .i64 0, Value.int .i64 0, Value.slice none 0 0, Value.int .i64 0, Value.int .i64 0, Value.int .i64 0, Value.int .i64 0, Value.int .i64 0, Value.slice none 0 0] 72)).cell? ⟨w.heap.size, 2, none⟩ = some (.int .i64 x2) := by simp [go_sem]
  have k3 : (((w.alloc (Obj.cells #[Value.int .i64 x0, Value.slice a1 n1 c1, Value.int .i64 x2, Value.int .i64 x3, Value.int .i64 x4, Value.slice a5 n5 c5, Value.int .i64 x6, Value.int .i64 x7, Value.int .i64 x8, Value.int .i64 x9, Value.int .i64 x10, Value.slice a11 n11 c11] 62)).alloc (Obj.cells #[Value.int .i64 0, Value.slice none 0 0, Value.int .i64 0, Value.int .i64 0, Value.int .i64 0, Value.slice none 0 0, Value.int .i64 0, Value.int .i64 0, Value.int .i64 0, Value.int .i64 0, Value.int .i64 0, Value.slice none 0 0] 72)).alloc (Obj.cells #[Value.int .i64 x0, Value.slice none 0 0, Value.int .i64 0, Value.int .i64 0, Value.int .i64 0, Value.slice none 0 0, Value.int .i64 0, Value.int .i64 0, Value.int .i64 0, Value.int .i64 0, Value.int .i64 0, Value.slice none 0 0] 72)).cell? ⟨w.heap.size, 3, none⟩ = some (.int .i64 x3) := by simp [go_sem]
  have k4 : (((w.alloc (Obj.cells #[Value.int .i64 x0, Value.slice a1 n1 c1, Value.int .i64 x2, Value.int .i64 x3, Value.int .i64 x4, Value.slice a5 n5 c5, Value.int .i64 x6, Value.int .i64 x7, Value.int .i64 x8, Value.int .i64 x9, Value.int .i64 x10, Value.slice a11 n11 c11] 62)).alloc (Obj.cells #[Value.int .i64 0, Value.slice none 0 0, Value.int .i64 0, Value.int .i64 0, Value.int .i64 0, Value.slice none 0 0, Value.int .i64 0, Value.int .i64 0, Value.int .i64 0, Value.int .i64 0, Value.int .i64 0, Value.slice none 0 0] 72)).alloc (Obj.cells #[Value.int .i64 x0, Value.slice none 0 0, Value.int .i64 0, Value.int .i64 0, Value.int .i64 0, Value.slice none 0 0, Value.int .i64 0, Value.int .i64 0, Value.int .i64 0, Value.int .i64 0, Value.int .i64 0, Value.slice none 0 0] 72)).cell? ⟨w.heap.size, 4, none⟩ = some (.int .i64 x4) := by simp [go_sem]
  have k5 : (((w.alloc (Obj.cells #[Value.int .i64 x0, Value.slice a1 n1 c1, Value.int .i64 x2, Value.int .i64 x3, Value.int .i64 x4, Value.slice a5 n5 c5, Value.int .i64 x6, Value.int .i64 x7, Value.int .i64 x8, Value.int .i64 x9, Value.int .i64 x10, Value.slice a11 n11 c11] 62)).alloc (Obj.cells #[Value.int .i64 0, Value.slice none 0 0, Value.int .i64 0, Value.int .i64 0, Value.int .i64 0, Value.slice none 0 0, Value.int .i64 0, Value.int .i64 0, Value.int .i64 0, Value.int .i64 0, Value.int .i64 0, Value.slice none 0 0] 72)).alloc (Obj.cells #[Value.int .i64 x0, Value.slice none 0 0, Value.int .i64 0, Value.int .i64 0, Value.int .i64 0, Value.slice none 0 0, Value.int .i64 0, Value.int .i64 0, Value.int .i64 0, Value.int .i64 0, Value.int .i64 0, Value.slice none 0 0] 72)).cell? ⟨w.heap.size, 5, none⟩ = some (.slice a5 n5 c5) := by simp [go_sem]
  have k6 : (((w.alloc (Obj.cells #[Value.int .i64 x0, Value.slice a1 n1 c1, Value.int .i64 x2, Value.int .i64 x3, Value.int .i64 x4, Value.slice a5 n5 c5, Value.int .i64 x6, Value.int .i64 x7, Value.int .i64 x8, Value.int .i64 x9, Value.int .i64 x10, Value.slice a11 n11 c11] 62)).alloc (Obj.cells #[Value.int .i64 0, Value.slice none 0 0, Value.int .i64 0, Value.int .i64 0, Value.int .i64 0, Value.slice none 0 0, Value.int .i64 0, Value.int .i64 0, Value.int .i64 0, Value.int .i64 0, Value.int .i64 0, Value.slice none 0 0] 72)).alloc (Obj.cells #[Value.int .i64 x0, Value.slice none 0 0, Value.int .i64 0, Value.int .i64 0, Value.int .i64 0, Value.slice none 0 0, Value.int .i64 0, Value.int .i64 0, Value.int .i64 0, Value.int .i64 0, Value.int .i64 0, Value.slice none 0 0] 72)).cell? ⟨w.heap.size, 6, none⟩ = some (.int .i64 x6) := by simp [go_sem]
  have k7 : (((w.alloc (Obj.cells #[Value.int .i64 x0, Value.slice a1 n1 c1, Value.int .i64 x2, Value.int .i64 x3, Value.int .i64 x4, Value.slice a5 n5 c5, Value.int .i64 x6, Value.int .i64 x7, Value.int .i64 x8, Value.int .i64 x9, Value.int .i64 x10, Value.slice a11 n11 c11] 62)).alloc (Obj.cells #[Value.int .i64 0, Value.slice none 0 0, Value.int .i64 0, Value.int .i64 0, Value.int .i64 0, Value.slice none 0 0, Value.int .i64 0, Value.int .i64 0, Value.int .i64 0, Value.int .i64 0, Value.int .i64 0, Value.slice none 0 0] 72)).alloc (Obj.cells #[Value.int .i64 x0, Value.slice none 0 0, Value.int .i64 0, Value.int .i64 0, Value.int .i64 0, Value.slice none 0 0, Value.int .i64 0, Value.int .i64 0, Value.int .i64 0, Value.int .i64 0, Value.int .i64 0, Value.slice none 0 0] 72)).cell? ⟨w.heap.size, 7, none⟩ = some (.int .i64 x7) := by simp [go_sem]
  have k8 : (((w.alloc (Obj.cells #[Value.int .i64 x0, Value.slice a1 n1 c1, Value.int .i64 x2, Value.int .i64 x3, Value.int .i64 x4, Value.slice a5 n5 c5, Value.int .i64 x6, Value.int .i64 x7, Value.int .i64 x8, Value.int .i64 x9, Value.int .i64 x10, Value.slice a11 n11 c11] 62)).alloc (Obj.cells #[Value.int .i64 0, Value.slice none 0 0, Value.int .i64 0, Value.int .i64 0, Value.int .i64 0, Value.slice none 0 0, Value.int .i64 0, Value.int .i64 0, Value.int .i64 0, Value.int .i64 0, Value.int .i64 0, Value.slice none 0 0] 72)).alloc (Obj.cells #[Value.int .i64 x0, Value.slice none 0 0, Value.int .i64 0, Value.int .i64 0, Value.int .i64 0, Value.slice none 0 0, Value.int .i64 0, Value.int .i64 0, Value.int .i64 0, Value.int .i64 0, Value.int .i64 0, Value.slice none 0 0] 72)).cell? ⟨w.heap.size, 8, none⟩ = some (.int .i64 x8) := by simp [go_sem]
  have k9 : (((w.alloc (Obj.cells #[Value.int .i64 x0, Value.slice a1 n1 c1, Value.int .i64 x2, Value.int .i64 x3, Value.int .i64 x4, Value.slice a5 n5 c5, Value.int .i64 x6, Value.int .i64 x7, Value.int .i64 x8, Value.int .i64 x9, Value.int .i64 x10, Value.slice a11 n11 c11] 62)).alloc (Obj.cells #[Value.int .i64 0, Value.slice none 0 0, Value.int .i64 0, Value.int .i64 0, Value.int .i64 0, Value.slice none 0 0, Value.int .i64 0, Value.int .i64 0, Value.int .i64 0, Value.int .i64 0, Value.int .i64 0, Value.slice none 0 0] 72)).alloc (Obj.cells #[Value.int .i64 x0, Value.slice none 0 0, Value.int .i64 0, Value.int .i64 0, Value.int .i64 0, Value.slice none 0 0, Value.int .i64 0, Value.int .i64 0, Value.int .i64 0, Value.int .i64 0, Value.int .i64 0, Value.slice none 0 0] 72)).cell? ⟨w.heap.size, 9, none⟩ = some (.int .i64 x9) := by simp [go_sem]
  have k10 : (((w.alloc (Obj.cells #[Value.int .i64 x0, Value.slice a1 n1 c1, Value.int .i64 x2, Value.int .i64 x3, Value.int .i64 x4, Value.slice a5 n5 c5, Value.int .i64 x6, Value.int .i64 x7, Value.int .i64 x8, Value.int .i64 x9, Value.int .i64 x10, Value.slice a11 n11 c11] 62)).alloc (Obj.cells #[Value.int .i64 0, Value.slice none 0 0, Value.int .i64 0, Value.int .i64 0, Value.int .i64 0, Value.slice none 0 0, Value.int .i64 0, Value.int .i64 0, Value.int .i64 0, Value.int .i64 0, Value.int .i64 0, Value.slice none 0 0] 72)).alloc (Obj.cells #[Value.int .i64 x0, Value.slice none 0 0, Value.int .i64 0, Value.int .i64 0, Value.int .i64 0, Value.slice none 0 0, Value.int .i64 0, Value.int .i64 0, Value.int .i64 0, Value.int .i64 0, Value.int .i64 0, Value.slice none 0 0] 72)).cell? ⟨w.heap.size, 10, none⟩ = some (.int .i64 x10) := by simp [go_sem]
  have k11 : (((w.alloc (Obj.cells #[Value.int .i64 x0, Value.slice a1 n1 c1, Value.int .i64 x2, Value.int .i64 x3, Value.int .i64 x4, Value.slice a5 n5 c5, Value.int .i64 x6, Value.int .i64 x7, Value.int .i64 x8, Value.int .i64 x9, Value.int .i64 x10, Value.slice a11 n11 c11] 62)).alloc (Obj.cells #[Value.int .i64 0, Value.slice none 0 0, Value.int .i64 0, Value.int .i64 0, Value.int .i64 0, Value.slice none 0 0, Value.int .i64 0, Value.int .i64 0, Value.int .i64 0, Value.int .i64 0, Value.int .i64 0, Value.slice none 0 0] 72)).alloc (Obj.cells #[Value.int .i64 x0, Value.slice none 0 0, Value.int .i64 0, Value.int .i64 0, Value.int .i64 0, Value.slice none 0 0, Value.int .i64 0, Value.int .i64 0, Value.int .i64 0, Value.int .i64 0, Value.int .i64 0, Value.slice none 0 0] 72)).cell? ⟨w.heap.size, 11, none⟩ = some (.slice a11 n11 c11) := by simp [go_sem]
  have r0 : (((w.alloc (Obj.cells #[Value.int .i64 x0, Value.slice a1 n1 c1, Value.int .i64 x2, Value.int .i64 x3, Value.int .i64 x4, Value.slice a5 n5 c5, Value.int .i64 x6, Value.int .i64 x7, Value.int .i64 x8, Value.int .i64 x9, Value.int .i64 x10, Value.slice a11 n11 c11] 62)).alloc (Obj.cells #[Value.int .i64 0, Value.slice none 0 0, Value.int .i64 0, Value.int .i64 0, Value.int .i64 0, Value.slice none 0 0, Value.int .i64 0, Value.int .i64 0, Value.int .i64 0, Value.int .i64 0, Value.int .i64 0, Value.slice none 0 0] 72)).alloc (Obj.cells #[Value.int .i64 x0, Value.slice none 0 0, Value.int .i64 0, Value.int .i64 0, Value.int .i64 0, Value.slice none 0 0, Value.int .i64 0, Value.int .i64 0, Value.int .i64 0, Value.int .i64 0, Value.int .i64 0, Value.slice none 0 0] 72)).cell? ⟨w.heap.size + 1, 0, none⟩ = some (.int .i64 0) := by simp [go_sem]
  have r1 : (((w.alloc (Obj.cells #[Value.int .i64 x0, Value.slice a1 n1 c1, Value.int .i64 x2, Value.int .i64 x3, Value.int .i64 x4, Value.slice a5 n5 c5, Value.int .i64 x6, Value.int .i64 x7, Value.int .i64 x8, Value.int .i64 x9, Value.int .i64 x10, Value.slice a11 n11 c11] 62)).alloc (Obj.cells #[Value.int .i64 0, Value.slice none 0 0, Value.int .i64 0, Value.int .i64 0, Value.int .i64 0, Value.slice none 0 0, Value.int .i64 0, Value.int .i64 0, Value.int .i64 0, Value.int .i64 0, Value.int .i64 0, Value.slice none 0 0] 72)).alloc (Obj.cells #[Value.int .i64 x0, Value.slice none 0 0, Value.int .i64 0, Value.int .i64 0, Value.int .i64 0, Value.slice none 0 0, Value.int .i64 0, Value.int .i64 0, Value.int .i64 0, Value.int .i64 0, Value.int .i64 0, Value.slice none 0 0] 72)).cell? ⟨w.heap.size + 1, 1, none⟩ = some (.slice none 0 0) := by simp [go_sem]
  have r2 : (((w.alloc (Obj.cells #[Value.int .i64 x0, Value.slice a1 n1 c1, Value.int .i64 x2, Value.int .i64 x3, Value.int .i64 x4, Value.slice a5 n5 c5, Value.int .i64 x6, Value.int .i64 x7, Value.int .i64 x8, Value.int .i64 x9, Value.int .i64 x10, Value.slice a11 n11 c11] 62)).alloc (Obj.cells #[Value.int .i64 0, Value.slice none 0 0, Value.int .i64 0, Value.int .i64 0, Value.int .i64 0, Value.slice none 0 0, Value.int .i64 0, Value.int .i64 0, Value.int .i64 0, Value.int .i64 0, Value.int .i64 0, Value.slice none 0 0] 72)).alloc (Obj.cells #[Value.int .i64 x0, Value.slice none 0 0, Value.int .i64 0, Value.int .i64 0, Value.int .i64 0, Value.slice none 0 0, Value.int .i64 0, Value.int .i64 0, Value.int .i64 0, Value.int .i64 0, Value.int .i64 0, Value.slice none 0 0] 72)).cell? ⟨w.heap.size + 1, 2, none⟩ = some (.int .i64 0) := by simp [go_sem]
  have r3 : (((w.alloc (Obj.cells #[Value.int .i64 x0, Value.slice a1 n1 c1, Value.int .i64 x2, Value.int .i64 x3, Value.int .i64 x4, Value.slice a5 n5 c5, Value.int .i64 x6, Value.int .i64 x7, Value.int .i64 x8, Value.int .i64 x9, Value.int .i64 x10, Value.slice a11 n11 c11] 62)).alloc (Obj.cells #[Value.int .i64 0, Value.slice none 0 0, Value.int .i64 0, Value.int .i64 0, Value.int .i64 0, Value.slice none 0 0, Value.int .i64 0, Value.int .i64 0, Value.int .i64 0, Value.int .i64 0, Value.int .i64 0, Value.slice none 0 0] 72)).alloc (Obj.cells #[Value.int .i64 x0, Value.slice none 0 0, Value.int .i64 0, Value.int .i64 0, Value.int .i64 0, Value.slice none 0 0, Value.int .i64 0, Value.int .i64 0, Value.int .i64 0, Value.int .i64 0, Value.int .i64 0, Value.slice none 0 0] 72)).cell? ⟨w.heap.size + 1, 3, none⟩ = some (.int .i64 0) := by simp [go_sem]
  have r4 : (((w.alloc (Obj.cells #[Value.int .i64 x0, Value.slice a1 n1 c1, Value.int .i64 x2, Value.int .i64 x3, Value.int .i64 x4, Value.slice a5 n5 c5, Value.int .i64 x6, Value.int .i64 x7, Value.int .i64 x8, Value.int .i64 x9, Value.int .i64 x10, Value.slice a11 n11 c11] 62)).alloc (Obj.cells #[Value.int .i64 0, Value.slice none 0 0, Value.int .i64 0, Value.int .i64 0, Value.int .i64 0, Value.slice none 0 0, Value.int .i64 0, Value.int .i64 0, Value.int .i64 0, Value.int .i64 0, Value.int .i64 0, Value.slice none 0 0] 72)).alloc (Obj.cells #[Value.int .i64 x0, Value.slice none 0 0, Value.int .i64 0, Value.int .i64 0, Value.int .i64 0, Value.slice none 0 0, Value.int .i64 0, Value.int .i64 0, Value.int .i64 0, Value.int .i64 0, Value.int .i64 0, Value.slice none 0 0] 72)).cell? ⟨w.heap.size + 1, 4, none⟩ = some (.int .i64 0) := by simp [go_sem]
  have r5 : (((w.alloc (Obj.cells #[Value.int .i64 x0, Value.slice a1 n1 c1, Value.int .i64 x2, Value.int .i64 x3, Value.int .i64 x4, Value.slice a5 n5 c5, Value.int .i64 x6, Value.int .i64 x7, Value.int .i64 x8, Value.int .i64 x9, Value.int .i64 x10, Value.slice a11 n11 c11] 62)).alloc (Obj.cells #[Value.int .i64 0, Value.slice none 0 0, Value.int .i64 0, Value.int .i64 0, Value.int .i64 0, Value.slice none 0 0, Value.int .i64 0, Value.int .i64 0, Value.int .i64 0, Value.int .i64 0, Value.int .i64 0, Value.slice none 0 0] 72)).alloc (Obj.cells #[Value.int .i64 x0, Value.slice none 0 0, Value.int .i64 0, Value.int .i64 0, Value.int .i64 0, Value.slice none 0 0, Value.int .i64 0, Value.int .i64 0, Value.int .i64 0, Value.int .i64 0, Value.int .i64 0, Value.slice none 0 0] 72)).cell? ⟨w.heap.size + 1, 5, none⟩ = some (.slice none 0 0) := by simp [go_sem]
  have r6 : (((w.alloc (Obj.cells #[Value.int .i64 x0, Value.slice a1 n1 c1, Value.int .i64 x2, Value.int .i64 x3, Value.int .i64 x4, Value.slice a5 n5 c5, Value.int .i64 x6, Value.int .i64 x7, Value.int .i64 x8, Value.int .i64 x9, Value.int .i64 x10, Value.slice a11 n11 c11] 62)).alloc (Obj.cells #[Value.int .i64 0, Value.slice none 0 0, Value.int .i64 0, Value.int .i64 0, Value.int .i64 0, Value.slice none 0 0, Value.int .i64 0, Value.int .i64 0, Value.int .i64 0, Value.int .i64 0, Value.int .i64 0, Value.slice none 0 0] 72)).alloc (Obj.cells #[Value.int .i64 x0, Value.slice none 0 0, Value.int .i64 0, Value.int .i64 0, Value.int .i64 0, Value.slice none 0 0, Value.int .i64 0, Value.int .i64 0, Value.int .i64 0, Value.int .i64 0, Value.int .i64 0, Value.slice none 0 0] 72)).cell? ⟨w.heap.size + 1, 6, none⟩ = some (.int .i64 0) := by simp [go_sem]
  have r7 : (((w.alloc (Obj.cells #[Value.int .i64 x0, Value.slice a1 n1 c1, Value.int .i64 x2, Value.int .i64 x3, Value.int .i64 x4, Value.slice a5 n5 c5, Value.int .i64 x6, Value.int .i64 x7, Value.int .i64 x8, Value.int .i64 x9, Value.int .i64 x10, Value.slice a11 n11 c11] 62)).alloc (Obj.cells #[Value.int .i64 0, Value.slice none 0 0, Value.int .i64 0, Value.int .i64 0, Value.int .i64 0, Value.slice none 0 0, Value.int .i64 0, Value.int .i64 0, Value.int .i64 0, Value.int .i64 0, Value.int .i64 0, Value.slice none 0 0] 72)).alloc (Obj.cells #[Value.int .i64 x0, Value.slice none 0 0, Value.int .i64 0, Value.int .i64 0, Value.int .i64 0, Value.slice none 0 0, Value.int .i64 0, Value.int .i64 0, Value.int .i64 0, Value.int .i64 0, Value.int .i64 0, Value.slice none 0 0] 72)).cell? ⟨w.heap.size + 1, 7, none⟩ = some (.int .i64 0) := by simp [go_sem]
  have r8 : (((w.alloc (Obj.cells #[Value.int .i64 x0, Value.slice a1 n1 c1, Value.int .i64 x2, Value.int .i64 x3, Value.int .i64 x4, Value.slice a5 n5 c5, Value.int .i64 x6, Value.int .i64 x7, Value.int .i64 x8, Value.int .i64 x9, Value.int .i64 x10, Value.slice a11 n11 c11] 62)).alloc (Obj.cells #[Value.int .i64 0, Value.slice none 0 0, Value.int .i64 0, Value.int .i64 0, Value.int .i64 0, Value.slice none 0 0, Value.int .i64 0, Value.int .i64 0, Value.int .i64 0, Value.int .i64 0, Value.int .i64 0, Value.slice none 0 0] 72)).alloc (Obj.cells #[Value.int .i64 x0, Value.slice none 0 0, Value.int .i64 0, Value.int .i64 0, Value.int .i64 0, Value.slice none 0 0, Value.int .i64 0, Value.int .i64 0, Value.int .i64 0, Value.int .i64 0, Value.int .i64 0, Value.slice none 0 0] 72)).cell? ⟨w.heap.size + 1, 8, none⟩ = some (.int .i64 0) := by simp [go_sem]
  have r9 : (((w.alloc (Obj.cells #[Value.int .i64 x0, Value.slice a1 n1 c1, Value.int .i64 x2, Value.int .i64 x3, Value.int .i64 x4, Value.slice a5 n5 c5, Value.int .i64 x6, Value.int .i64 x7, Value.int .i64 x8, Value.int .i64 x9, Value.int .i64 x10, Value.slice a11 n11 c11] 62)).alloc (Obj.cells #[Value.int .i64 0, Value.slice none 0 0, Value.int .i64 0, Value.int .i64 0, Value.int .i64 0, Value.slice none 0 0, Value.int .i64 0, Value.int .i64 0, Value.int .i64 0, Value.int .i64 0, Value.int .i64 0, Value.slice none 0 0] 72)).alloc (Obj.cells #[Value.int .i64 x0, Value.slice none 0 0, Value.int .i64 0, Value.int .i64 0, Value.int .i64 0, Value.slice none 0 0, Value.int .i64 0, Value.int .i64 0, Value.int .i64 0, Value.int .i64 0, Value.int .i64 0, Value.slice none 0 0] 72)).cell? ⟨w.heap.size + 1, 9, none⟩ = some (.int .i64 0) := by simp [go_sem]
  have r10 : (((w.alloc (Obj.cells #[Value.int .i64 x0, Value.slice a1 n1 c1, Value.int .i64 x2, Value.int .i64 x3, Value.int .i64 x4, Value.slice a5 n5 c5, Value.int .i64 x6, Value.int .i64 x7, Value.int .i64 x8, Value.int .i64 x9, Value.int .i64 x10, Value.slice a11 n11 c11] 62)).alloc (Obj.cells #[Value.int .i64 0, Value.slice none 0 0, Value.int .i64 0, Value.int .i64 0, Value.int .i64 0, Value.slice none 0 0, Value.int .i64 0, Value.int .i64 0, Value.int .i64 0, Value.int .i64 0, Value.int .i64 0, Value.slice none 0 0] 72)).alloc (Obj.cells #[Value.int .i64 x0, Value.slice none 0 0, Value.int .i64 0, Value.int .i64 0, Value.int .i64 0, Value.slice none 0 0, Value.int .i64 0, Value.int .i64 0, Value.int .i64 0, Value.int .i64 0, Value.int .i64 0, Value.slice none 0 0] 72)).cell? ⟨w.heap.size + 1, 10, none⟩ = some (.int .i64 0) := by simp [go_sem]
  have r11 : (((w.alloc (Obj.cells #[Value.int .i64 x0, Value.slice a1 n1 c1, Value.int .i64 x2, Value.int .i64 x3, Value.int .i64 x4, Value.slice a5 n5 c5, Value.int .i64 x6, Value.int .i64 x7, Value.int .i64 x8, Value.int .i64 x9, Value.int .i64 x10, Value.slice a11 n11 c11] 62)).alloc (Obj.cells #[Value.int .i64 0, Value.slice none 0 0, Value.int .i64 0, Value.int .i64 0, Value.int .i64 0, Value.slice none 0 0, Value.int .i64 0, Value.int .i64 0, Value.int .i64 0, Value.int .i64 0, Value.int .i64 0, Value.slice none 0 0] 72)).alloc (Obj.cells #[Value.int .i64 x0, Value.slice none 0 0, Value.int .i64 0, Value.int .i64 0, Value.int .i64 0, Value.slice none 0 0, Value.int .i64 0, Value.int .i64 0, Value.int .i64 0, Value.int .i64 0, Value.int .i64 0, Value.slice none 0 0] 72)).cell? ⟨w.heap.size + 1, 11, none⟩ = some (.slice none 0 0) := by simp [go_sem]
  have p0 : (((w.alloc (Obj.cells #[Value.int .i64 x0, Value.slice a1 n1 c1, Value.int .i64 x2, Value.int .i64 x3, Value.int .i64 x4, Value.slice a5 n5 c5, Value.int .i64 x6, Value.int .i64 x7, Value.int .i64 x8, Value.int .i64 x9, Value.int .i64 x10, Value.slice a11 n11 c11] 62)).alloc (Obj.cells #[Value.int .i64 0, Value.slice none 0 0, Value.int .i64 0, Value.int .i64 0, Value.int .i64 0, Value.slice none 0 0, Value.int .i64 0, Value.int .i64 0, Value.int .i64 0, Value.int .i64 0, Value.int .i64 0, Value.slice none 0 0] 72)).alloc (Obj.cells #[Value.int .i64 x0, Value.slice none 0 0, Value.int .i64 0, Value.int .i64 0, Value.int .i64 0, Value.slice none 0 0, Value.int .i64 0, Value.int .i64 0, Value.int .i64 0, Value.int .i64 0, Value.int .i64 0, Value.slice none 0 0] 72)).cell? ⟨w.heap.size + 1 + 1, 0, none⟩ = some (.int .i64 x0) := by simp [go_sem]
  have p1 : (((w.alloc (Obj.cells #[Value.int .i64 x0, Value.slice a1 n1 c1, Value.int .i64 x2, Value.int .i64 x3, Value.int .i64 x4, Value.slice a5 n5 c5, Value.int .i64 x6, Value.int .i64 x7, Value.int .i64 x8, Value.int .i64 x9, Value.int .i64 x10, Value.slice a11 n11 c11] 62)).alloc (Obj.cells #[Value.int .i64 0, Value.slice none 0 0, Value.int .i64 0, Value.int .i64 0, Value.int .i64 0, Value.slice none 0 0, Value.int .i64 0, Value.int .i64 0, Value.int .i64 0, Value.int .i64 0, Value.int .i64 0, Value.slice none 0 0] 72)).alloc (Obj.cells #[Value.int .i64 x0, Value.slice none 0 0, Value.int .i64 0, Value.int .i64 0, Value.int .i64 0, Value.slice none 0 0, Value.int .i64 0, Value.int .i64 0, Value.int .i64 0, Value.int .i64 0, Value.int .i64 0, Value.slice none 0 0] 72)).cell? ⟨w.heap.size + 1 + 1, 1, none⟩ = some (.slice none 0 0) := by simp [go_sem]
  have p2 : (((w.alloc (Obj.cells #[Value.int .i64 x0, Value.slice a1 n1 c1, Value.int .i64 x2, Value.int .i64 x3, Value.int .i64 x4, Value.slice a5 n5 c5, Value.int .i64 x6, Value.int .i64 x7, Value.int .i64 x8, Value.int .i64 x9, Value.int .i64 x10, Value.slice a11 n11 c11] 62)).alloc (Obj.cells #[Value.int .i64 0, Value.slice none 0 0, Value.int .i64 0, Value.int .i64 0, Value.int .i64 0, Value.slice none 0 0, Value.int .i64 0, Value.int .i64 0, Value.int .i64 0, Value.int .i64 0, Value.int .i64 0, Value.slice none 0 0] 72)).alloc (Obj.cells #[Value.int .i64 x0, Value.slice none 0 0, Value.int .i64 0, Value.int .i64 0, Value.int .i64 0, Value.slice none 0 0, Value.int .i64 0, Value.int .i64 0, Value.int .i64 0, Value.int .i64 0, Value.int .i64 0, Value.slice none 0 0] 72)).cell? ⟨w.heap.size + 1 + 1, 2, none⟩ = some (.int .i64 0) := by simp [go_sem]
  have p3 : (((w.alloc (Obj.cells #[Value.int .i64 x0, Value.slice a1 n1 c1, Value.int .i64 x2, Value.int .i64 x3, Value.int .i64 x4, Value.slice a5 n5 c5, Value.int .i64 x6, Value.int .i64 x7, Value.int .i64 x8, Value.int .i64 x9, Value.int .i64 x10, Value.slice a11 n11 c11] 62)).alloc (Obj.cells #[Value.int .i64 0, Value.slice none 0 0, Value.int .i64 0, Value.int .i64 0, Value.int .i64 0, Value.slice none 0 0, Value.int .i64 0, Value.int .i64 0, Value.int .i64 0, Value.int .i64 0, Value.int .i64 0, Value.slice none 0 0] 72)).alloc (Obj.cells #[Value.int .i64 x0, Value.slice none 0 0, Value.int .i64 0, Value.int .i64 0, Value.int .i64 0, Value.slice none 0 0, Value.int .i64 0, Value.int .i64 0, Value.int .i64 0, Value.int .i64 0, Value.int .i64 0, Value.slice none 0 0] 72)).cell? ⟨w.heap.size + 1 + 1, 3, none⟩ = some (.int .i64 0) := by simp [go_sem]
  have p4 : (((w.alloc (Obj.cells #[Value.int .i64 x0, Value.slice a1 n1 c1, Value.int .i64 x2, Value.int .i64 x3, Value.int .i64 x4, Value.slice a5 n5 c5, Value.int .i64 x6, Value.int .i64 x7, Value.int .i64 x8, Value.int .i64 x9, Value.int .i64 x10, Value.slice a11 n11 c11] 62)).alloc (Obj.cells #[Value.int .i64 0, Value.slice none 0 0, Value.int .i64 0, Value.int .i64 0, Value.int .i64 0, Value.slice none 0 0, Value.int .i64 0, Value.int .i64 0, Value.int .i64 0, Value.int .i64 0, Value.int .i64 0, Value.slice none 0 0] 72)).alloc (Obj.cells #[Value.int .i64 x0, Value.slice none 0 0, Value.int .i64 0, Value.int .i64 0, Value.int .i64 0, Value.slice none 0 0, Value.int .i64 0, Value.int .i64 0, Value.int .i64 0, Value.int .i64 0, Value.int .i64 0, Value.slice none 0 0] 72)).cell? ⟨w.heap.size + 1 + 1, 4, none⟩ = some (.int .i64 0) := by simp [go_sem]
  have p5 : (((w.alloc (Obj.cells #[Value.int .i64 x0, Value.slice a1 n1 c1, Value.int .i64 x2, Value.int .i64 x3, Value.int .i64 x4, Value.slice a5 n5 c5, Value.int .i64 x6, Value.int .i64 x7, Value.int .i64 x8, Value.int .i64 x9, Value.int .i64 x10, Value.slice a11 n11 c11] 62)).alloc (Obj.cells #[Value.int .i64 0, Value.slice none 0 0, Value.int .i64 0, Value.int .i64 0, Value.int .i64 0, Value.slice none 0 0, Value.int .i64 0, Value.int .i64 0, Value.int .i64 0, Value.int .i64 0, Value.int .i64 0, Value.slice none 0 0] 72)).alloc (Obj.cells #[Value.int .i64 x0, Value.slice none 0 0, Value.int .i64 0, Value.int .i64 0, Value.int .i64 0, Value.slice none 0 0, Value.int .i64 0, Value.int .i64 0, Value.int .i64 0, Value.int .i64 0, Value.int .i64 0, Value.slice none 0 0] 72)).cell? ⟨w.heap.size + 1 + 1, 5, none⟩ = some (.slice none 0 0) := by simp [go_sem]
  have p6 : (((w.alloc (Obj.cells #[Value.int .i64 x0, Value.slice a1 n1 c1, Value.int .i64 x2, Value.int .i64 x3, Value.int .i64 x4, Value.slice a5 n5 c5, Value.int .i64 x6, Value.int .i64 x7, Value.int .i64 x8, Value.int .i64 x9, Value.int .i64 x10, Value.slice a11 n11 c11] 62)).alloc (Obj.cells #[Value.int .i64 0, Value.slice none 0 0, Value.int .i64 0, Value.int .i64 0, Value.int .i64 0, Value.slice none 0 0, Value.int .i64 0, Value.int .i64 0, Value.int .i64 0, Value.int .i64 0, Value.int .i64 0, Value.slice none 0 0] 72)).alloc (Obj.cells #[Value.int .i64 x0, Value.slice none 0 0, Value.int .i64 0, Value.int .i64 0, Value.int .i64 0, Value.slice none 0 0, Value.int .i64 0, Value.int .i64 0, Value.int .i64 0, Value.int .i64 0, Value.int .i64 0, Value.slice none 0 0] 72)).cell? ⟨w.heap.size + 1 + 1, 6, none⟩ = some (.int .i64 0) := by simp [go_sem]
  have p7 : (((w.alloc (Obj.cells #[Value.int .i64 x0, Value.slice a1 n1 c1, Value.int .i64 x2, Value.int .i64 x3, Value.int .i64 x4, Value.slice a5 n5 c5, Value.int .i64 x6, Value.int .i64 x7, Value.int .i64 x8, Value.int .i64 x9, Value.int .i64 x10, Value.slice a11 n11 c11] 62)).alloc (Obj.cells #[Value.int .i64 0, Value.slice none 0 0, Value.int .i64 0, Value.int .i64 0, Value.int .i64 0, Value.slice none 0 0, Value.int .i64 0, Value.int .i64 0, Value.int .i64 0, Value.int .i64 0, Value.int .i64 0, Value.slice none 0 0] 72)).alloc (Obj.cells #[Value.int .i64 x0, Value.slice none 0 0, Value.int .i64 0, Value.int .i64 0, Value.int .i64 0, Value.slice none 0 0, Value.int .i64 0, Value.int .i64 0, Value.int .i64 0, Value.int .i64 0, Value.int .i64 0, Value.slice none 0 0] 72)).cell? ⟨w.heap.size + 1 + 1, 7, none⟩ = some (.int .i64 0) := by simp [go_sem]
  have p8 : (((w.alloc (Obj.cells #[Value.int .i64 x0, Value.slice a1 n1 c1, Value.int .i64 x2, Value.int .i64 x3, Value.int .i64 x4, Value.slice a5 n5 c5, Value.int .i64 x6, Value.int .i64 x7, Value.int .i64 x8, Value.int .i64 x9, Value.int .i64 x10, Value.slice a11 n11 c11] 62)).alloc (Obj.cells #[Value.int .i64 0, Value.slice none 0 0, Value.int .i64 0, Value.int .i64 0, Value.int .i64 0, Value.slice none 0 0, Value.int .i64 0, Value.int .i64 0, Value.int .i64 0, Value.int .i64 0, Value.int .i64 0, Value.slice none 0 0] 72)).alloc (Obj.cells #[Value.int .i64 x0, Value.slice none 0 0, Value.int .i64 0, Value.int .i64 0, Value.int .i64 0, Value.slice none 0 0, Value.int .i64 0, Value.int .i64 0, Value.int .i64 0, Value.int .i64 0, Value.int .i64 0, Value.slice none 0 0] 72)).cell? ⟨w.heap.size + 1 + 1, 8, none⟩ = some (.int .i64 0) := by simp [go_sem]
  have p9 : (((w.alloc (Obj.cells #[Value.int .i64 x0, Value.slice a1 n1 c1, Value.int .i64 x2, Value.int .i64 x3, Value.int .i64 x4, Value.slice a5 n5 c5, Value.int .i64 x6, Value.int .i64 x7, Value.int .i64 x8, Value.int .i64 x9, Value.int .i64 x10, Value.slice a11 n11 c11] 62)).alloc (Obj.cells #[Value.int .i64 0, Value.slice none 0 0, Value.int .i64 0, Value.int .i64 0, Value.int .i64 0, Value.slice none 0 0, Value.int .i64 0, Value.int .i64 0, Value.int .i64 0, Value.int .i64 0, Value.int .i64 0, Value.slice none 0 0] 72)).alloc (Obj.cells #[Value.int .i64 x0, Value.slice none 0 0, Value.int .i64 0, Value.int .i64 0, Value.int .i64 0, Value.slice none 0 0, Value.int .i64 0, Value.int .i64 0, Value.int .i64 0, Value.int .i64 0, Value.int .i64 0, Value.slice none 0 0] 72)).cell? ⟨w.heap.size + 1 + 1, 9, none⟩ = some (.int .i64 0) := by simp [go_sem]
  have p10 : (((w.alloc (Obj.cells #[Value.int .i64 x0, Value.slice a1 n1 c1, Value.int .i64 x2, Value.int .i64 x3, Value.int .i64 x4, Value.slice a5 n5 c5, Value.int .i64 x6, Value.int .i64 x7, Value.int .i64 x8, Value.int .i64 x9, Value.int .i64 x10, Value.slice a11 n11 c11] 62)).alloc (Obj.cells #[Value.int .i64 0, Value.slice none 0 0, Value.int .i64 0, Value.int .i64 0, Value.int .i64 0, Value.slice none 0 0, Value.int .i64 0, Value.int .i64 0, Value.int .i64 0, Value.int .i64 0, Value.int .i64 0, Value.slice none 0 0] 72)).alloc (Obj.cells #[Value.int .i64 x0, Value.slice none 0 0, Value.int .i64 0, Value.int .i64 0, Value.int .i64 0, Value.slice none 0 0, Value.int .i64 0, Value.int .i64 0, Value.int .i64 0, Value.int .i64 0, Value.int .i64 0, Value.slice none 0 0] 72)).cell? ⟨w.heap.size + 1 + 1, 10, none⟩ = some (.int .i64 0) := by simp [go_sem]
  have p11 : (((w.alloc (Obj.cells #[Value.int .i64 x0, Value.slice a1 n1 c1, Value.int .i64 x2, Value.int .i64 x3, Value.int .i64 x4, Value.slice a5 n5 c5, Value.int .i64 x6, Value.int .i64 x7, Value.int .i64 x8, Value.int .i64 x9, Value.int .i64 x10, Value.slice a11 n11 c11] 62)).alloc (Obj.cells #[Value.int .i64 0, Value.slice none 0 0, Value.int .i64 0, Value.int .i64 0, Value.int .i64 0, Value.slice none 0 0, Value.int .i64 0, Value.int .i64 0, Value.int .i64 0, Value.int .i64 0, Value.int .i64 0, Value.slice none 0 0] 72)).alloc (Obj.cells #[Value.int .i64 x0, Value.slice none 0 0, Value.int .i64 0, Value.int .i64 0, Value.int .i64 0, Value.slice none 0 0, Value.int .i64 0, Value.int .i64 0, Value.int .i64 0, Value.int .i64 0, Value.int .i64 0, Value.slice none 0 0] 72)).cell? ⟨w.heap.size + 1 + 1, 11, none⟩ = some (.slice none 0 0) := by simp [go_sem]
  have fr : ∀ q, (((w.alloc (Obj.cells #[Value.int .i64 x0, Value.slice a1 n1 c1, Value.int .i64 x2, Value.int .i64 x3, Value.int .i64 x4, Value.slice a5 n5 c5, Value.int .i64 x6, Value.int .i64 x7, Value.int .i64 x8, Value.int .i64 x9, Value.int .i64 x10, Value.slice a11 n11 c11] 62)).alloc (Obj.cells #[Value.int .i64 0, Value.slice none 0 0, Value.int .i64 0, Value.int .i64 0, Value.int .i64 0, Value.slice none 0 0, Value.int .i64 0, Value.int .i64 0, Value.int .i64 0, Value.int .i64 0, Value.int .i64 0, Value.slice none 0 0] 72)).alloc (Obj.cells #[Value.int .i64 x0, Value.slice none 0 0, Value.int .i64 0, Value.int .i64 0, Value.int .i64 0, Value.slice none 0 0, Value.int .i64 0, Value.int .i64 0, Value.int .i64 0, Value.int .i64 0, Value.int .i64 0, Value.slice none 0 0] 72)).frozen? ⟨w.heap.size + 1, q, none⟩ = false := fun q => by simp [go_sem]
  have fp : ∀ q, (((w.alloc (Obj.cells #[Value.int .i64 x0, Value.slice a1 n1 c1, Value.int .i64 x2, Value.int .i64 x3, Value.int .i64 x4, Value.slice a5 n5 c5, Value.int .i64 x6, Value.int .i64 x7, Value.int .i64 x8, Value.int .i64 x9, Value.int .i64 x10, Value.slice a11 n11 c11] 62)).alloc (Obj.cells #[Value.int .i64 0, Value.slice none 0 0, Value.int .i64 0, Value.int .i64 0, Value.int .i64 0, Value.slice none 0 0, Value.int .i64 0, Value.int .i64 0, Value.int .i64 0, Value.int .i64 0, Value.int .i64 0, Value.slice none 0 0] 72)).alloc (Obj.cells #[Value.int .i64 x0, Value.slice none 0 0, Value.int .i64 0, Value.int .i64 0, Value.int .i64 0, Value.slice none 0 0, Value.int .i64 0, Value.int .i64 0, Value.int .i64 0, Value.int .i64 0, Value.int .i64 0, Value.slice none 0 0] 72)).frozen? ⟨w.heap.size + 1 + 1, q, none⟩ = false := fun q => by simp [go_sem]
  have sz0 : (((w.alloc (Obj.cells #[Value.int .i64 x0, Value.slice a1 n1 c1, Value.int .i64 x2, Value.int .i64 x3, Value.int .i64 x4, Value.slice a5 n5 c5, Value.int .i64 x6, Value.int .i64 x7, Value.int .i64 x8, Value.int .i64 x9, Value.int .i64 x10, Value.slice a11 n11 c11] 62)).alloc (Obj.cells #[Value.int .i64 0, Value.slice none 0 0, Value.int .i64 0, Value.int .i64 0, Value.int .i64 0, Value.slice none 0 0, Value.int .i64 0, Value.int .i64 0, Value.int .i64 0, Value.int .i64 0, Value.int .i64 0, Value.slice none 0 0] 72)).alloc (Obj.cells #[Value.int .i64 x0, Value.slice none 0 0, Value.int .i64 0, Value.int .i64 0, Value.int .i64 0, Value.slice none 0 0, Value.int .i64 0, Value.int .i64 0, Value.int .i64 0, Value.int .i64 0, Value.int .i64 0, Value.slice none 0 0] 72)).heap.size = w.heap.size + 1 + 1 + 1 := by simp only [World.size_alloc]
  go_enter Tryd.func19, Tryd.ntmps19
  go_wp2_with fail
  generalize (((w.alloc (Obj.cells #[Value.int .i64 x0, Value.slice a1 n1 c1, Value.int .i64 x2, Value.int .i64 x3, Value.int .i64 x4, Value.slice a5 n5 c5, Value.int .i64 x6, Value.int .i64 x7, Value.int .i64 x8, Value.int .i64 x9, Value.int .i64 x10, Value.slice a11 n11 c11] 62)).alloc (Obj.cells #[Value.int .i64 0, Value.slice none 0 0, Value.int .i64 0, Value.int .i64 0, Value.int .i64 0, Value.slice none 0 0, Value.int .i64 0, Value.int .i64 0, Value.int .i64 0, Value.int .i64 0, Value.int .i64 0, Value.slice none 0 0] 72)).alloc (Obj.cells #[Value.int .i64 x0, Value.slice none 0 0, Value.int .i64 0, Value.int .i64 0, Value.int .i64 0, Value.slice none 0 0, Value.int .i64 0, Value.int .i64 0, Value.int .i64 0, Value.int .i64 0, Value.int .i64 0, Value.slice none 0 0] 72)) = u0 at *
  refine (toStepS a1 n1 c1 B z1 _ (h1.mk M hB (.inr (Nat.le_refl _))) (Nat.le_trans hB M.size) hn1).mono ?_
  rintro e w1 ⟨b1, rfl, o1, m1⟩
  have zt1 := m1.size
  replace k2 := m1.cellAt k2
  replace k3 := m1.cellAt k3
  replace k4 := m1.cellAt k4
  replace k5 := m1.cellAt k5
  replace k6 := m1.cellAt k6
  replace k7 := m1.cellAt k7
  replace k8 := m1.cellAt k8
  replace k9 := m1.cellAt k9
  replace k10 := m1.cellAt k10
  replace k11 := m1.cellAt k11
  clear k1
  replace r0 := m1.cellAt r0
  replace r1 := m1.cellAt r1
  replace r2 := m1.cellAt r2
  replace r3 := m1.cellAt r3
  replace r4 := m1.cellAt r4
  replace r5 := m1.cellAt r5
  replace r6 := m1.cellAt r6
  replace r7 := m1.cellAt r7
  replace r8 := m1.cellAt r8
  replace r9 := m1.cellAt r9
  replace r10 := m1.cellAt r10
  replace r11 := m1.cellAt r11
  replace p0 := m1.cellAt p0
  replace p1 := m1.cellAt p1
  replace p2 := m1.cellAt p2
  replace p3 := m1.cellAt p3
  replace p4 := m1.cellAt p4
  replace p5 := m1.cellAt p5
  replace p6 := m1.cellAt p6
  replace p7 := m1.cellAt p7
  replace p8 := m1.cellAt p8
  replace p9 := m1.cellAt p9
  replace p10 := m1.cellAt p10
  replace p11 := m1.cellAt p11
  replace fr := fun q => (m1.frozen (b := w.heap.size + 1) (o := q) (by omega) (.inr (Nat.zero_le _))).trans (fr q)
  replace fp := fun q => (m1.frozen (b := w.heap.size + 1 + 1) (o := q) (by omega) (.inr (Nat.zero_le _))).trans (fp q)
  replace M := M.trans m1
  clear m1
  go_wp2_with fail
  replace p0 := cell_set p0 ⟨w.heap.size + 1 + 1, 1, none⟩ (.slice (some ⟨b1, 0, none⟩) n1 n1) (.inr (by simp))
  replace p1 := World.cell?_setCell_same _ _ (.slice (some ⟨b1, 0, none⟩) n1 n1) p1
  replace p2 := cell_set p2 ⟨w.heap.size + 1 + 1, 1, none⟩ (.slice (some ⟨b1, 0, none⟩) n1 n1) (.inr (by simp))
  replace p3 := cell_set p3 ⟨w.heap.size + 1 + 1, 1, none⟩ (.slice (some ⟨b1, 0, none⟩) n1 n1) (.inr (by simp))
  replace p4 := cell_set p4 ⟨w.heap.size + 1 + 1, 1, none⟩ (.slice (some ⟨b1, 0, none⟩) n1 n1) (.inr (by simp))
  replace p5 := cell_set p5 ⟨w.heap.size + 1 + 1, 1, none⟩ (.slice (some ⟨b1, 0, none⟩) n1 n1) (.inr (by simp))
  replace p6 := cell_set p6 ⟨w.heap.size + 1 + 1, 1, none⟩ (.slice (some ⟨b1, 0, none⟩) n1 n1) (.inr (by simp))
  replace p7 := cell_set p7 ⟨w.heap.size + 1 + 1, 1, none⟩ (.slice (some ⟨b1, 0, none⟩) n1 n1) (.inr (by simp))
  replace p8 := cell_set p8 ⟨w.heap.size + 1 + 1, 1, none⟩ (.slice (some ⟨b1, 0, none⟩) n1 n1) (.inr (by simp))
  replace p9 := cell_set p9 ⟨w.heap.size + 1 + 1, 1, none⟩ (.slice (some ⟨b1, 0, none⟩) n1 n1) (.inr (by simp))
  replace p10 := cell_set p10 ⟨w.heap.size + 1 + 1, 1, none⟩ (.slice (some ⟨b1, 0, none⟩) n1 n1) (.inr (by simp))
  replace p11 := cell_set p11 ⟨w.heap.size + 1 + 1, 1, none⟩ (.slice (some ⟨b1, 0, none⟩) n1 n1) (.inr (by simp))
  replace r0 := cell_set r0 ⟨w.heap.size + 1 + 1, 1, none⟩ (.slice (some ⟨b1, 0, none⟩) n1 n1) (.inl (show w.heap.size + 1 + 1 ≠ w.heap.size + 1 from by omega))
  replace r1 := cell_set r1 ⟨w.heap.size + 1 + 1, 1, none⟩ (.slice (some ⟨b1, 0, none⟩) n1 n1) (.inl (show w.heap.size + 1 + 1 ≠ w.heap.size + 1 from by omega))
  replace r2 := cell_set r2 ⟨w.heap.size + 1 + 1, 1, none⟩ (.slice (some ⟨b1, 0, none⟩) n1 n1) (.inl (show w.heap.size + 1 + 1 ≠ w.heap.size + 1 from by omega))
  replace r3 := cell_set r3 ⟨w.heap.size + 1 + 1, 1, none⟩ (.slice (some ⟨b1, 0, none⟩) n1 n1) (.inl (show w.heap.size + 1 + 1 ≠ w.heap.size + 1 from by omega))
  replace r4 := cell_set r4 ⟨w.heap.size + 1 + 1, 1, none⟩ (.slice (some ⟨b1, 0, none⟩) n1 n1) (.inl (show w.heap.size + 1 + 1 ≠ w.heap.size + 1 from by omega))
  replace r5 := cell_set r5 ⟨w.heap.size + 1 + 1, 1, none⟩ (.slice (some ⟨b1, 0, none⟩) n1 n1) (.inl (show w.heap.size + 1 + 1 ≠ w.heap.size + 1 from by omega))
  replace r6 := cell_set r6 ⟨w.heap.size + 1 + 1, 1, none⟩ (.slice (some ⟨b1, 0, none⟩) n1 n1) (.inl (show w.heap.size + 1 + 1 ≠ w.heap.size + 1 from by omega))
  replace r7 := cell_set r7 ⟨w.heap.size + 1 + 1, 1, none⟩ (.slice (some ⟨b1, 0, none⟩) n1 n1) (.inl (show w.heap.size + 1 + 1 ≠ w.heap.size + 1 from by omega))
  replace r8 := cell_set r8 ⟨w.heap.size + 1 + 1, 1, none⟩ (.slice (some ⟨b1, 0, none⟩) n1 n1) (.inl (show w.heap.size + 1 + 1 ≠ w.heap.size + 1 from by omega))
  replace r9 := cell_set r9 ⟨w.heap.size + 1 + 1, 1, none⟩ (.slice (some ⟨b1, 0, none⟩) n1 n1) (.inl (show w.heap.size + 1 + 1 ≠ w.heap.size + 1 from by omega))
  replace r10 := cell_set r10 ⟨w.heap.size + 1 + 1, 1, none⟩ (.slice (some ⟨b1, 0, none⟩) n1 n1) (.inl (show w.heap.size + 1 + 1 ≠ w.heap.size + 1 from by omega))
  replace r11 := cell_set r11 ⟨w.heap.size + 1 + 1, 1, none⟩ (.slice (some ⟨b1, 0, none⟩) n1 n1) (.inl (show w.heap.size + 1 + 1 ≠ w.heap.size + 1 from by omega))
  replace k2 := cell_set k2 ⟨w.heap.size + 1 + 1, 1, none⟩ (.slice (some ⟨b1, 0, none⟩) n1 n1) (.inl (show w.heap.size + 1 + 1 ≠ w.heap.size from by omega))
  replace k3 := cell_set k3 ⟨w.heap.size + 1 + 1, 1, none⟩ (.slice (some ⟨b1, 0, none⟩) n1 n1) (.inl (show w.heap.size + 1 + 1 ≠ w.heap.size from by omega))
  replace k4 := cell_set k4 ⟨w.heap.size + 1 + 1, 1, none⟩ (.slice (some ⟨b1, 0, none⟩) n1 n1) (.inl (show w.heap.size + 1 + 1 ≠ w.heap.size from by omega))
  replace k5 := cell_set k5 ⟨w.heap.size + 1 + 1, 1, none⟩ (.slice (some ⟨b1, 0, none⟩) n1 n1) (.inl (show w.heap.size + 1 + 1 ≠ w.heap.size from by omega))
  replace k6 := cell_set k6 ⟨w.heap.size + 1 + 1, 1, none⟩ (.slice (some ⟨b1, 0, none⟩) n1 n1) (.inl (show w.heap.size + 1 + 1 ≠ w.heap.size from by omega))
  replace k7 := cell_set k7 ⟨w.heap.size + 1 + 1, 1, none⟩ (.slice (some ⟨b1, 0, none⟩) n1 n1) (.inl (show w.heap.size + 1 + 1 ≠ w.heap.size from by omega))
  replace k8 := cell_set k8 ⟨w.heap.size + 1 + 1, 1, none⟩ (.slice (some ⟨b1, 0, none⟩) n1 n1) (.inl (show w.heap.size + 1 + 1 ≠ w.heap.size from by omega))
  replace k9 := cell_set k9 ⟨w.heap.size + 1 + 1, 1, none⟩ (.slice (some ⟨b1, 0, none⟩) n1 n1) (.inl (show w.heap.size + 1 + 1 ≠ w.heap.size from by omega))
  replace k10 := cell_set k10 ⟨w.heap.size + 1 + 1, 1, none⟩ (.slice (some ⟨b1, 0, none⟩) n1 n1) (.inl (show w.heap.size + 1 + 1 ≠ w.heap.size from by omega))
  replace k11 := cell_set k11 ⟨w.heap.size + 1 + 1, 1, none⟩ (.slice (some ⟨b1, 0, none⟩) n1 n1) (.inl (show w.heap.size + 1 + 1 ≠ w.heap.size from by omega))
  replace fr := fun q => frozen_set (fr q) ⟨w.heap.size + 1 + 1, 1, none⟩ (.slice (some ⟨b1, 0, none⟩) n1 n1)
  replace fp := fun q => frozen_set (fp q) ⟨w.heap.size + 1 + 1, 1, none⟩ (.slice (some ⟨b1, 0, none⟩) n1 n1)
  replace o1 := o1.set ⟨w.heap.size + 1 + 1, 1, none⟩ (.slice (some ⟨b1, 0, none⟩) n1 n1) (.inl (show w.heap.size + 1 + 1 < _ from by omega))
  replace M := M.put ⟨w.heap.size + 1 + 1, 1, none⟩ (.slice (some ⟨b1, 0, none⟩) n1 n1) (show w.heap.size ≤ w.heap.size + 1 + 1 from by omega)
  have zu1 : (w1.setCell ⟨w.heap.size + 1 + 1, 1, none⟩ (.slice (some ⟨b1, 0, none⟩) n1 n1)).heap.size = w1.heap.size := by simp [World.setCell]
  generalize (w1.setCell ⟨w.heap.size + 1 + 1, 1, none⟩ (.slice (some ⟨b1, 0, none⟩) n1 n1)) = u1 at *
  refine (toPacketC x2 x3 x4 x6 x7 x8 x9 x10 a5 n5 c5 z5 a11 n11 c11 z11 B _ (h5.mk M hB (.inr (Nat.le_refl _))) (h11.mk M hB (.inr (Nat.le_refl _))) (Nat.le_trans hB M.size) hn5 hn11).mono ?_
  rintro e w2 ⟨b5, b11, d5, rfl, o5, o11, g5, g11, m2⟩
  have zt2 := m2.size
  clear k2
  clear k3
  clear k4
  clear k5
  clear k6
  clear k7
  clear k8
  clear k9
  clear k10
  clear k11
  replace r0 := m2.cellAt r0
  replace r1 := m2.cellAt r1
  replace r2 := m2.cellAt r2
  replace r3 := m2.cellAt r3
  replace r4 := m2.cellAt r4
  replace r5 := m2.cellAt r5
  replace r6 := m2.cellAt r6
  replace r7 := m2.cellAt r7
  replace r8 := m2.cellAt r8
  replace r9 := m2.cellAt r9
  replace r10 := m2.cellAt r10
  replace r11 := m2.cellAt r11
  replace p0 := m2.cellAt p0
  replace p1 := m2.cellAt p1
  replace p2 := m2.cellAt p2
  replace p3 := m2.cellAt p3
  replace p4 := m2.cellAt p4
  replace p5 := m2.cellAt p5
  replace p6 := m2.cellAt p6
  replace p7 := m2.cellAt p7
  replace p8 := m2.cellAt p8
  replace p9 := m2.cellAt p9
  replace p10 := m2.cellAt p10
  replace p11 := m2.cellAt p11
  replace fr := fun q => (m2.frozen (b := w.heap.size + 1) (o := q) (by omega) (.inr (Nat.zero_le _))).trans (fr q)
  replace fp := fun q => (m2.frozen (b := w.heap.size + 1 + 1) (o := q) (by omega) (.inr (Nat.zero_le _))).trans (fp q)
  replace o1 := o1.mk m2 (by omega) (.inr (.inr (Nat.le_refl _)))
  replace M := M.trans m2
  clear m2
  go_upto_region 5 with fail
  replace p0 := cell_set p0 ⟨w.heap.size + 1 + 1, 2, none⟩ (.int .i64 x2) (.inr (by simp))
  replace p1 := cell_set p1 ⟨w.heap.size + 1 + 1, 2, none⟩ (.int .i64 x2) (.inr (by simp))
  replace p2 := World.cell?_setCell_same _ _ (.int .i64 x2) p2
  replace p3 := cell_set p3 ⟨w.heap.size + 1 + 1, 2, none⟩ (.int .i64 x2) (.inr (by simp))
  replace p4 := cell_set p4 ⟨w.heap.size + 1 + 1, 2, none⟩ (.int .i64 x2) (.inr (by simp))
  replace p5 := cell_set p5 ⟨w.heap.size + 1 + 1, 2, none⟩ (.int .i64 x2) (.inr (by simp))
  replace p6 := cell_set p6 ⟨w.heap.size + 1 + 1, 2, none⟩ (.int .i64 x2) (.inr (by simp))
  replace p7 := cell_set p7 ⟨w.heap.size + 1 + 1, 2, none⟩ (.int .i64 x2) (.inr (by simp))
  replace p8 := cell_set p8 ⟨w.heap.size + 1 + 1, 2, none⟩ (.int .i64 x2) (.inr (by simp))
  replace p9 := cell_set p9 ⟨w.heap.size + 1 + 1, 2, none⟩ (.int .i64 x2) (.inr (by simp))
  replace p10 := cell_set p10 ⟨w.heap.size + 1 + 1, 2, none⟩ (.int .i64 x2) (.inr (by simp))
  replace p11 := cell_set p11 ⟨w.heap.size + 1 + 1, 2, none⟩ (.int .i64 x2) (.inr (by simp))
  replace r0 := cell_set r0 ⟨w.heap.size + 1 + 1, 2, none⟩ (.int .i64 x2) (.inl (show w.heap.size + 1 + 1 ≠ w.heap.size + 1 from by omega))
  replace r1 := cell_set r1 ⟨w.heap.size + 1 + 1, 2, none⟩ (.int .i64 x2) (.inl (show w.heap.size + 1 + 1 ≠ w.heap.size + 1 from by omega))
  replace r2 := cell_set r2 ⟨w.heap.size + 1 + 1, 2, none⟩ (.int .i64 x2) (.inl (show w.heap.size + 1 + 1 ≠ w.heap.size + 1 from by omega))
  replace r3 := cell_set r3 ⟨w.heap.size + 1 + 1, 2, none⟩ (.int .i64 x2) (.inl (show w.heap.size + 1 + 1 ≠ w.heap.size + 1 from by omega))
  replace r4 := cell_set r4 ⟨w.heap.size + 1 + 1, 2, none⟩ (.int .i64 x2) (.inl (show w.heap.size + 1 + 1 ≠ w.heap.size + 1 from by omega))
  replace r5 := cell_set r5 ⟨w.heap.size + 1 + 1, 2, none⟩ (.int .i64 x2) (.inl (show w.heap.size + 1 + 1 ≠ w.heap.size + 1 from by omega))
  replace r6 := cell_set r6 ⟨w.heap.size + 1 + 1, 2, none⟩ (.int .i64 x2) (.inl (show w.heap.size + 1 + 1 ≠ w.heap.size + 1 from by omega))
  replace r7 := cell_set r7 ⟨w.heap.size + 1 + 1, 2, none⟩ (.int .i64 x2) (.inl (show w.heap.size + 1 + 1 ≠ w.heap.size + 1 from by omega))
  replace r8 := cell_set r8 ⟨w.heap.size + 1 + 1, 2, none⟩ (.int .i64 x2) (.inl (show w.heap.size + 1 + 1 ≠ w.heap.size + 1 from by omega))
  replace r9 := cell_set r9 ⟨w.heap.size + 1 + 1, 2, none⟩ (.int .i64 x2) (.inl (show w.heap.size + 1 + 1 ≠ w.heap.size + 1 from by omega))
  replace r10 := cell_set r10 ⟨w.heap.size + 1 + 1, 2, none⟩ (.int .i64 x2) (.inl (show w.heap.size + 1 + 1 ≠ w.heap.size + 1 from by omega))
  replace r11 := cell_set r11 ⟨w.heap.size + 1 + 1, 2, none⟩ (.int .i64 x2) (.inl (show w.heap.size + 1 + 1 ≠ w.heap.size + 1 from by omega))
  replace fr := fun q => frozen_set (fr q) ⟨w.heap.size + 1 + 1, 2, none⟩ (.int .i64 x2)
  replace fp := fun q => frozen_set (fp q) ⟨w.heap.size + 1 + 1, 2, none⟩ (.int .i64 x2)
  replace o1 := o1.set ⟨w.heap.size + 1 + 1, 2, none⟩ (.int .i64 x2) (.inl (show w.heap.size + 1 + 1 < _ from by omega))
  replace o5 := o5.set ⟨w.heap.size + 1 + 1, 2, none⟩ (.int .i64 x2) (.inl (show w.heap.size + 1 + 1 < _ from by omega))
  replace o11 := o11.set ⟨w.heap.size + 1 + 1, 2, none⟩ (.int .i64 x2) (.inl (show w.heap.size + 1 + 1 < _ from by omega))
  replace M := M.put ⟨w.heap.size + 1 + 1, 2, none⟩ (.int .i64 x2) (show w.heap.size ≤ w.heap.size + 1 + 1 from by omega)
  replace p0 := cell_set p0 ⟨w.heap.size + 1 + 1, 3, none⟩ (.int .i64 x3) (.inr (by simp))
  replace p1 := cell_set p1 ⟨w.heap.size + 1 + 1, 3, none⟩ (.int .i64 x3) (.inr (by simp))
  replace p2 := cell_set p2 ⟨w.heap.size + 1 + 1, 3, none⟩ (.int .i64 x3) (.inr (by simp))
  replace p3 := World.cell?_setCell_same _ _ (.int .i64 x3) p3
  replace p4 := cell_set p4 ⟨w.heap.size + 1 + 1, 3, none⟩ (.int .i64 x3) (.inr (by simp))
  replace p5 := cell_set p5 ⟨w.heap.size + 1 + 1, 3, none⟩ (.int .i64 x3) (.inr (by simp))
  replace p6 := cell_set p6 ⟨w.heap.size + 1 + 1, 3, none⟩ (.int .i64 x3) (.inr (by simp))
  replace p7 := cell_set p7 ⟨w.heap.size + 1 + 1, 3, none⟩ (.int .i64 x3) (.inr (by simp))
  replace p8 := cell_set p8 ⟨w.heap.size + 1 + 1, 3, none⟩ (.int .i64 x3) (.inr (by simp))
  replace p9 := cell_set p9 ⟨w.heap.size + 1 + 1, 3, none⟩ (.int .i64 x3) (.inr (by simp))
  replace p10 := cell_set p10 ⟨w.heap.size + 1 + 1, 3, none⟩ (.int .i64 x3) (.inr (by simp))
  replace p11 := cell_set p11 ⟨w.heap.size + 1 + 1, 3, none⟩ (.int .i64 x3) (.inr (by simp))
  replace r0 := cell_set r0 ⟨w.heap.size + 1 + 1, 3, none⟩ (.int .i64 x3) (.inl (show w.heap.size + 1 + 1 ≠ w.heap.size + 1 from by omega))
  replace r1 := cell_set r1 ⟨w.heap.size + 1 + 1, 3, none⟩ (.int .i64 x3) (.inl (show w.heap.size + 1 + 1 ≠ w.heap.size + 1 from by omega))
  replace r2 := cell_set r2 ⟨w.heap.size + 1 + 1, 3, none⟩ (.int .i64 x3) (.inl (show w.heap.size + 1 + 1 ≠ w.heap.size + 1 from by omega))
  replace r3 := cell_set r3 ⟨w.heap.size + 1 + 1, 3, none⟩ (.int .i64 x3) (.inl (show w.heap.size + 1 + 1 ≠ w.heap.size + 1 from by omega))
  replace r4 := cell_set r4 ⟨w.heap.size + 1 + 1, 3, none⟩ (.int .i64 x3) (.inl (show w.heap.size + 1 + 1 ≠ w.heap.size + 1 from by omega))
  replace r5 := cell_set r5 ⟨w.heap.size + 1 + 1, 3, none⟩ (.int .i64 x3) (.inl (show w.heap.size + 1 + 1 ≠ w.heap.size + 1 from by omega))
  replace r6 := cell_set r6 ⟨w.heap.size + 1 + 1, 3, none⟩ (.int .i64 x3) (.inl (show w.heap.size + 1 + 1 ≠ w.heap.size + 1 from by omega))
  replace r7 := cell_set r7 ⟨w.heap.size + 1 + 1, 3, none⟩ (.int .i64 x3) (.inl (show w.heap.size + 1 + 1 ≠ w.heap.size + 1 from by omega))
  replace r8 := cell_set r8 ⟨w.heap.size + 1 + 1, 3, none⟩ (.int .i64 x3) (.inl (show w.heap.size + 1 + 1 ≠ w.heap.size + 1 from by omega))
  replace r9 := cell_set r9 ⟨w.heap.size + 1 + 1, 3, none⟩ (.int .i64 x3) (.inl (show w.heap.size + 1 + 1 ≠ w.heap.size + 1 from by omega))
  replace r10 := cell_set r10 ⟨w.heap.size + 1 + 1, 3, none⟩ (.int .i64 x3) (.inl (show w.heap.size + 1 + 1 ≠ w.heap.size + 1 from by omega))
  replace r11 := cell_set r11 ⟨w.heap.size + 1 + 1, 3, none⟩ (.int .i64 x3) (.inl (show w.heap.size + 1 + 1 ≠ w.heap.size + 1 from by omega))
  replace fr := fun q => frozen_set (fr q) ⟨w.heap.size + 1 + 1, 3, none⟩ (.int .i64 x3)
  replace fp := fun q => frozen_set (fp q) ⟨w.heap.size + 1 + 1, 3, none⟩ (.int .i64 x3)
  replace o1 := o1.set ⟨w.heap.size + 1 + 1, 3, none⟩ (.int .i64 x3) (.inl (show w.heap.size + 1 + 1 < _ from by omega))
  replace o5 := o5.set ⟨w.heap.size + 1 + 1, 3, none⟩ (.int .i64 x3) (.inl (show w.heap.size + 1 + 1 < _ from by omega))
  replace o11 := o11.set ⟨w.heap.size + 1 + 1, 3, none⟩ (.int .i64 x3) (.inl (show w.heap.size + 1 + 1 < _ from by omega))
  replace M := M.put ⟨w.heap.size + 1 + 1, 3, none⟩ (.int .i64 x3) (show w.heap.size ≤ w.heap.size + 1 + 1 from by omega)
  replace p0 := cell_set p0 ⟨w.heap.size + 1 + 1, 4, none⟩ (.int .i64 x4) (.inr (by simp))
  replace p1 := cell_set p1 ⟨w.heap.size + 1 + 1, 4, none⟩ (.int .i64 x4) (.inr (by simp))
  replace p2 := cell_set p2 ⟨w.heap.size + 1 + 1, 4, none⟩ (.int .i64 x4) (.inr (by simp))
  replace p3 := cell_set p3 ⟨w.heap.size + 1 + 1, 4, none⟩ (.int .i64 x4) (.inr (by simp))
  replace p4 := World.cell?_setCell_same _ _ (.int .i64 x4) p4
  replace p5 := cell_set p5 ⟨w.heap.size + 1 + 1, 4, none⟩ (.int .i64 x4) (.inr (by simp))
  replace p6 := cell_set p6 ⟨w.heap.size + 1 + 1, 4, none⟩ (.int .i64 x4) (.inr (by simp))
  replace p7 := cell_set p7 ⟨w.heap.size + 1 + 1, 4, none⟩ (.int .i64 x4) (.inr (by simp))
  replace p8 := cell_set p8 ⟨w.heap.size + 1 + 1, 4, none⟩ (.int .i64 x4) (.inr (by simp))
  replace p9 := cell_set p9 ⟨w.heap.size + 1 + 1, 4, none⟩ (.int .i64 x4) (.inr (by simp))
  replace p10 := cell_set p10 ⟨w.heap.size + 1 + 1, 4, none⟩ (.int .i64 x4) (.inr (by simp))
  replace p11 := cell_set p11 ⟨w.heap.size + 1 + 1, 4, none⟩ (.int .i64 x4) (.inr (by simp))
  replace r0 := cell_set r0 ⟨w.heap.size + 1 + 1, 4, none⟩ (.int .i64 x4) (.inl (show w.heap.size + 1 + 1 ≠ w.heap.size + 1 from by omega))
  replace r1 := cell_set r1 ⟨w.heap.size + 1 + 1, 4, none⟩ (.int .i64 x4) (.inl (show w.heap.size + 1 + 1 ≠ w.heap.size + 1 from by omega))
  replace r2 := cell_set r2 ⟨w.heap.size + 1 + 1, 4, none⟩ (.int .i64 x4) (.inl (show w.heap.size + 1 + 1 ≠ w.heap.size + 1 from by omega))
  replace r3 := cell_set r3 ⟨w.heap.size + 1 + 1, 4, none⟩ (.int .i64 x4) (.inl (show w.heap.size + 1 + 1 ≠ w.heap.size + 1 from by omega))
  replace r4 := cell_set r4 ⟨w.heap.size + 1 + 1, 4, none⟩ (.int .i64 x4) (.inl (show w.heap.size + 1 + 1 ≠ w.heap.size + 1 from by omega))
  replace r5 := cell_set r5 ⟨w.heap.size + 1 + 1, 4, none⟩ (.int .i64 x4) (.inl (show w.heap.size + 1 + 1 ≠ w.heap.size + 1 from by omega))
  replace r6 := cell_set r6 ⟨w.heap.size + 1 + 1, 4, none⟩ (.int .i64 x4) (.inl (show w.heap.size + 1 + 1 ≠ w.heap.size + 1 from by omega))
  replace r7 := cell_set r7 ⟨w.heap.size + 1 + 1, 4, none⟩ (.int .i64 x4) (.inl (show w.heap.size + 1 + 1 ≠ w.heap.size + 1 from by omega))
  replace r8 := cell_set r8 ⟨w.heap.size + 1 + 1, 4, none⟩ (.int .i64 x4) (.inl (show w.heap.size + 1 + 1 ≠ w.heap.size + 1 from by omega))
  replace r9 := cell_set r9 ⟨w.heap.size + 1 + 1, 4, none⟩ (.int .i64 x4) (.inl (show w.heap.size + 1 + 1 ≠ w.heap.size + 1 from by omega))
  replace r10 := cell_set r10 ⟨w.heap.size + 1 + 1, 4, none⟩ (.int .i64 x4) (.inl (show w.heap.size + 1 + 1 ≠ w.heap.size + 1 from by omega))
  replace r11 := cell_set r11 ⟨w.heap.size + 1 + 1, 4, none⟩ (.int .i64 x4) (.inl (show w.heap.size + 1 + 1 ≠ w.heap.size + 1 from by omega))
  replace fr := fun q => frozen_set (fr q) ⟨w.heap.size + 1 + 1, 4, none⟩ (.int .i64 x4)
  replace fp := fun q => frozen_set (fp q) ⟨w.heap.size + 1 + 1, 4, none⟩ (.int .i64 x4)
  replace o1 := o1.set ⟨w.heap.size + 1 + 1, 4, none⟩ (.int .i64 x4) (.inl (show w.heap.size + 1 + 1 < _ from by omega))
  replace o5 := o5.set ⟨w.heap.size + 1 + 1, 4, none⟩ (.int .i64 x4) (.inl (show w.heap.size + 1 + 1 < _ from by omega))
  replace o11 := o11.set ⟨w.heap.size + 1 + 1, 4, none⟩ (.int .i64 x4) (.inl (show w.heap.size + 1 + 1 < _ from by omega))
  replace M := M.put ⟨w.heap.size + 1 + 1, 4, none⟩ (.int .i64 x4) (show w.heap.size ≤ w.heap.size + 1 + 1 from by omega)
  replace p0 := cell_set p0 ⟨w.heap.size + 1 + 1, 5, none⟩ (.slice (some ⟨b5, 0, none⟩) n5 n5) (.inr (by simp))
  replace p1 := cell_set p1 ⟨w.heap.size + 1 + 1, 5, none⟩ (.slice (some ⟨b5, 0, none⟩) n5 n5) (.inr (by simp))
  replace p2 := cell_set p2 ⟨w.heap.size + 1 + 1, 5, none⟩ (.slice (some ⟨b5, 0, none⟩) n5 n5) (.inr (by simp))
  replace p3 := cell_set p3 ⟨w.heap.size + 1 + 1, 5, none⟩ (.slice (some ⟨b5, 0, none⟩) n5 n5) (.inr (by simp))
  replace p4 := cell_set p4 ⟨w.heap.size + 1 + 1, 5, none⟩ (.slice (some ⟨b5, 0, none⟩) n5 n5) (.inr (by simp))
  replace p5 := World.cell?_setCell_same _ _ (.slice (some ⟨b5, 0, none⟩) n5 n5) p5
  replace p6 := cell_set p6 ⟨w.heap.size + 1 + 1, 5, none⟩ (.slice (some ⟨b5, 0, none⟩) n5 n5) (.inr (by simp))
  replace p7 := cell_set p7 ⟨w.heap.size + 1 + 1, 5, none⟩ (.slice (some ⟨b5, 0, none⟩) n5 n5) (.inr (by simp))
  replace p8 := cell_set p8 ⟨w.heap.size + 1 + 1, 5, none⟩ (.slice (some ⟨b5, 0, none⟩) n5 n5) (.inr (by simp))
  replace p9 := cell_set p9 ⟨w.heap.size + 1 + 1, 5, none⟩ (.slice (some ⟨b5, 0, none⟩) n5 n5) (.inr (by simp))
  replace p10 := cell_set p10 ⟨w.heap.size + 1 + 1, 5, none⟩ (.slice (some ⟨b5, 0, none⟩) n5 n5) (.inr (by simp))
  replace p11 := cell_set p11 ⟨w.heap.size + 1 + 1, 5, none⟩ (.slice (some ⟨b5, 0, none⟩) n5 n5) (.inr (by simp))
  replace r0 := cell_set r0 ⟨w.heap.size + 1 + 1, 5, none⟩ (.slice (some ⟨b5, 0, none⟩) n5 n5) (.inl (show w.heap.size + 1 + 1 ≠ w.heap.size + 1 from by omega))
  replace r1 := cell_set r1 ⟨w.heap.size + 1 + 1, 5, none⟩ (.slice (some ⟨b5, 0, none⟩) n5 n5) (.inl (show w.heap.size + 1 + 1 ≠ w.heap.size + 1 from by omega))
  replace r2 := cell_set r2 ⟨w.heap.size + 1 + 1, 5, none⟩ (.slice (some ⟨b5, 0, none⟩) n5 n5) (.inl (show w.heap.size + 1 + 1 ≠ w.heap.size + 1 from by omega))
  replace r3 := cell_set r3 ⟨w.heap.size + 1 + 1, 5, none⟩ (.slice (some ⟨b5, 0, none⟩) n5 n5) (.inl (show w.heap.size + 1 + 1 ≠ w.heap.size + 1 from by omega))
  replace r4 := cell_set r4 ⟨w.heap.size + 1 + 1, 5, none⟩ (.slice (some ⟨b5, 0, none⟩) n5 n5) (.inl (show w.heap.size + 1 + 1 ≠ w.heap.size + 1 from by omega))
  replace r5 := cell_set r5 ⟨w.heap.size + 1 + 1, 5, none⟩ (.slice (some ⟨b5, 0, none⟩) n5 n5) (.inl (show w.heap.size + 1 + 1 ≠ w.heap.size + 1 from by omega))
  replace r6 := cell_set r6 ⟨w.heap.size + 1 + 1, 5, none⟩ (.slice (some ⟨b5, 0, none⟩) n5 n5) (.inl (show w.heap.size + 1 + 1 ≠ w.heap.size + 1 from by omega))
  replace r7 := cell_set r7 ⟨w.heap.size + 1 + 1, 5, none⟩ (.slice (some ⟨b5, 0, none⟩) n5 n5) (.inl (show w.heap.size + 1 + 1 ≠ w.heap.size + 1 from by omega))
  replace r8 := cell_set r8 ⟨w.heap.size + 1 + 1, 5, none⟩ (.slice (some ⟨b5, 0, none⟩) n5 n5) (.inl (show w.heap.size + 1 + 1 ≠ w.heap.size + 1 from by omega))
  replace r9 := cell_set r9 ⟨w.heap.size + 1 + 1, 5, none⟩ (.slice (some ⟨b5, 0, none⟩) n5 n5) (.inl (show w.heap.size + 1 + 1 ≠ w.heap.size + 1 from by omega))
  replace r10 := cell_set r10 ⟨w.heap.size + 1 + 1, 5, none⟩ (.slice (some ⟨b5, 0, none⟩) n5 n5) (.inl (show w.heap.size + 1 + 1 ≠ w.heap.size + 1 from by omega))
  replace r11 := cell_set r11 ⟨w.heap.size + 1 + 1, 5, none⟩ (.slice (some ⟨b5, 0, none⟩) n5 n5) (.inl (show w.heap.size + 1 + 1 ≠ w.heap.size + 1 from by omega))
  replace fr := fun q => frozen_set (fr q) ⟨w.heap.size + 1 + 1, 5, none⟩ (.slice (some ⟨b5, 0, none⟩) n5 n5)
  replace fp := fun q => frozen_set (fp q) ⟨w.heap.size + 1 + 1, 5, none⟩ (.slice (some ⟨b5, 0, none⟩) n5 n5)
  replace o1 := o1.set ⟨w.heap.size + 1 + 1, 5, none⟩ (.slice (some ⟨b5, 0, none⟩) n5 n5) (.inl (show w.heap.size + 1 + 1 < _ from by omega))
  replace o5 := o5.set ⟨w.heap.size + 1 + 1, 5, none⟩ (.slice (some ⟨b5, 0, none⟩) n5 n5) (.inl (show w.heap.size + 1 + 1 < _ from by omega))
  replace o11 := o11.set ⟨w.heap.size + 1 + 1, 5, none⟩ (.slice (some ⟨b5, 0, none⟩) n5 n5) (.inl (show w.heap.size + 1 + 1 < _ from by omega))
  replace M := M.put ⟨w.heap.size + 1 + 1, 5, none⟩ (.slice (some ⟨b5, 0, none⟩) n5 n5) (show w.heap.size ≤ w.heap.size + 1 + 1 from by omega)
  replace p0 := cell_set p0 ⟨w.heap.size + 1 + 1, 6, none⟩ (.int .i64 x6) (.inr (by simp))
  replace p1 := cell_set p1 ⟨w.heap.size + 1 + 1, 6, none⟩ (.int .i64 x6) (.inr (by simp))
  replace p2 := cell_set p2 ⟨w.heap.size + 1 + 1, 6, none⟩ (.int .i64 x6) (.inr (by simp))
  replace p3 := cell_set p3 ⟨w.heap.size + 1 + 1, 6, none⟩ (.int .i64 x6) (.inr (by simp))
  replace p4 := cell_set p4 ⟨w.heap.size + 1 + 1, 6, none⟩ (.int .i64 x6) (.inr (by simp))
  replace p5 := cell_set p5 ⟨w.heap.size + 1 + 1, 6, none⟩ (.int .i64 x6) (.inr (by simp))
  replace p6 := World.cell?_setCell_same _ _ (.int .i64 x6) p6
  replace p7 := cell_set p7 ⟨w.heap.size + 1 + 1, 6, none⟩ (.int .i64 x6) (.inr (by simp))
  replace p8 := cell_set p8 ⟨w.heap.size + 1 + 1, 6, none⟩ (.int .i64 x6) (.inr (by simp))
  replace p9 := cell_set p9 ⟨w.heap.size + 1 + 1, 6, none⟩ (.int .i64 x6) (.inr (by simp))
  replace p10 := cell_set p10 ⟨w.heap.size + 1 + 1, 6, none⟩ (.int .i64 x6) (.inr (by simp))
  replace p11 := cell_set p11 ⟨w.heap.size + 1 + 1, 6, none⟩ (.int .i64 x6) (.inr (by simp))
  replace r0 := cell_set r0 ⟨w.heap.size + 1 + 1, 6, none⟩ (.int .i64 x6) (.inl (show w.heap.size + 1 + 1 ≠ w.heap.size + 1 from by omega))
  replace r1 := cell_set r1 ⟨w.heap.size + 1 + 1, 6, none⟩ (.int .i64 x6) (.inl (show w.heap.size + 1 + 1 ≠ w.heap.size + 1 from by omega))
  replace r2 := cell_set r2 ⟨w.heap.size + 1 + 1, 6, none⟩ (.int .i64 x6) (.inl (show w.heap.size + 1 + 1 ≠ w.heap.size + 1 from by omega))
  replace r3 := cell_set r3 ⟨w.heap.size + 1 + 1, 6, none⟩ (.int .i64 x6) (.inl (show w.heap.size + 1 + 1 ≠ w.heap.size + 1 from by omega))
  replace r4 := cell_set r4 ⟨w.heap.size + 1 + 1, 6, none⟩ (.int .i64 x6) (.inl (show w.heap.size + 1 + 1 ≠ w.heap.size + 1 from by omega))
  replace r5 := cell_set r5 ⟨w.heap.size + 1 + 1, 6, none⟩ (.int .i64 x6) (.inl (show w.heap.size + 1 + 1 ≠ w.heap.size + 1 from by omega))
  replace r6 := cell_set r6 ⟨w.heap.size + 1 + 1, 6, none⟩ (.int .i64 x6) (.inl (show w.heap.size + 1 + 1 ≠ w.heap.size + 1 from by omega))
  replace r7 := cell_set r7 ⟨w.heap.size + 1 + 1, 6, none⟩ (.int .i64 x6) (.inl (show w.heap.size + 1 + 1 ≠ w.heap.size + 1 from by omega))
  replace r8 := cell_set r8 ⟨w.heap.size + 1 + 1, 6, none⟩ (.int .i64 x6) (.inl (show w.heap.size + 1 + 1 ≠ w.heap.size + 1 from by omega))
  replace r9 := cell_set r9 ⟨w.heap.size + 1 + 1, 6, none⟩ (.int .i64 x6) (.inl (show w.heap.size + 1 + 1 ≠ w.heap.size + 1 from by omega))
  replace r10 := cell_set r10 ⟨w.heap.size + 1 + 1, 6, none⟩ (.int .i64 x6) (.inl (show w.heap.size + 1 + 1 ≠ w.heap.size + 1 from by omega))
  replace r11 := cell_set r11 ⟨w.heap.size + 1 + 1, 6, none⟩ (.int .i64 x6) (.inl (show w.heap.size + 1 + 1 ≠ w.heap.size + 1 from by omega))
  replace fr := fun q => frozen_set (fr q) ⟨w.heap.size + 1 + 1, 6, none⟩ (.int .i64 x6)
  replace fp := fun q => frozen_set (fp q) ⟨w.heap.size + 1 + 1, 6, none⟩ (.int .i64 x6)
  replace o1 := o1.set ⟨w.heap.size + 1 + 1, 6, none⟩ (.int .i64 x6) (.inl (show w.heap.size + 1 + 1 < _ from by omega))
  replace o5 := o5.set ⟨w.heap.size + 1 + 1, 6, none⟩ (.int .i64 x6) (.inl (show w.heap.size + 1 + 1 < _ from by omega))
  replace o11 := o11.set ⟨w.heap.size + 1 + 1, 6, none⟩ (.int .i64 x6) (.inl (show w.heap.size + 1 + 1 < _ from by omega))
  replace M := M.put ⟨w.heap.size + 1 + 1, 6, none⟩ (.int .i64 x6) (show w.heap.size ≤ w.heap.size + 1 + 1 from by omega)
  replace p0 := cell_set p0 ⟨w.heap.size + 1 + 1, 7, none⟩ (.int .i64 x7) (.inr (by simp))
  replace p1 := cell_set p1 ⟨w.heap.size + 1 + 1, 7, none⟩ (.int .i64 x7) (.inr (by simp))
  replace p2 := cell_set p2 ⟨w.heap.size + 1 + 1, 7, none⟩ (.int .i64 x7) (.inr (by simp))
  replace p3 := cell_set p3 ⟨w.heap.size + 1 + 1, 7, none⟩ (.int .i64 x7) (.inr (by simp))
  replace p4 := cell_set p4 ⟨w.heap.size + 1 + 1, 7, none⟩ (.int .i64 x7) (.inr (by simp))
  replace p5 := cell_set p5 ⟨w.heap.size + 1 + 1, 7, none⟩ (.int .i64 x7) (.inr (by simp))
  replace p6 := cell_set p6 ⟨w.heap.size + 1 + 1, 7, none⟩ (.int .i64 x7) (.inr (by simp))
  replace p7 := World.cell?_setCell_same _ _ (.int .i64 x7) p7
  replace p8 := cell_set p8 ⟨w.heap.size + 1 + 1, 7, none⟩ (.int .i64 x7) (.inr (by simp))
  replace p9 := cell_set p9 ⟨w.heap.size + 1 + 1, 7, none⟩ (.int .i64 x7) (.inr (by simp))
  replace p10 := cell_set p10 ⟨w.heap.size + 1 + 1, 7, none⟩ (.int .i64 x7) (.inr (by simp))
  replace p11 := cell_set p11 ⟨w.heap.size + 1 + 1, 7, none⟩ (.int .i64 x7) (.inr (by simp))
  replace r0 := cell_set r0 ⟨w.heap.size + 1 + 1, 7, none⟩ (.int .i64 x7) (.inl (show w.heap.size + 1 + 1 ≠ w.heap.size + 1 from by omega))
  replace r1 := cell_set r1 ⟨w.heap.size + 1 + 1, 7, none⟩ (.int .i64 x7) (.inl (show w.heap.size + 1 + 1 ≠ w.heap.size + 1 from by omega))
  replace r2 := cell_set r2 ⟨w.heap.size + 1 + 1, 7, none⟩ (.int .i64 x7) (.inl (show w.heap.size + 1 + 1 ≠ w.heap.size + 1 from by omega))
  replace r3 := cell_set r3 ⟨w.heap.size + 1 + 1, 7, none⟩ (.int .i64 x7) (.inl (show w.heap.size + 1 + 1 ≠ w.heap.size + 1 from by omega))
  replace r4 := cell_set r4 ⟨w.heap.size + 1 + 1, 7, none⟩ (.int .i64 x7) (.inl (show w.heap.size + 1 + 1 ≠ w.heap.size + 1 from by omega))
  replace r5 := cell_set r5 ⟨w.heap.size + 1 + 1, 7, none⟩ (.int .i64 x7) (.inl (show w.heap.size + 1 + 1 ≠ w.heap.size + 1 from by omega))
  replace r6 := cell_set r6 ⟨w.heap.size + 1 + 1, 7, none⟩ (.int .i64 x7) (.inl (show w.heap.size + 1 + 1 ≠ w.heap.size + 1 from by omega))
  replace r7 := cell_set r7 ⟨w.heap.size + 1 + 1, 7, none⟩ (.int .i64 x7) (.inl (show w.heap.size + 1 + 1 ≠ w.heap.size + 1 from by omega))
  replace r8 := cell_set r8 ⟨w.heap.size + 1 + 1, 7, none⟩ (.int .i64 x7) (.inl (show w.heap.size + 1 + 1 ≠ w.heap.size + 1 from by omega))
  replace r9 := cell_set r9 ⟨w.heap.size + 1 + 1, 7, none⟩ (.int .i64 x7) (.inl (show w.heap.size + 1 + 1 ≠ w.heap.size + 1 from by omega))
  replace r10 := cell_set r10 ⟨w.heap.size + 1 + 1, 7, none⟩ (.int .i64 x7) (.inl (show w.heap.size + 1 + 1 ≠ w.heap.size + 1 from by omega))
  replace r11 := cell_set r11 ⟨w.heap.size + 1 + 1, 7, none⟩ (.int .i64 x7) (.inl (show w.heap.size + 1 + 1 ≠ w.heap.size + 1 from by omega))
  replace fr := fun q => frozen_set (fr q) ⟨w.heap.size + 1 + 1, 7, none⟩ (.int .i64 x7)
  replace fp := fun q => frozen_set (fp q) ⟨w.heap.size + 1 + 1, 7, none⟩ (.int .i64 x7)
  replace o1 := o1.set ⟨w.heap.size + 1 + 1, 7, none⟩ (.int .i64 x7) (.inl (show w.heap.size + 1 + 1 < _ from by omega))
  replace o5 := o5.set ⟨w.heap.size + 1 + 1, 7, none⟩ (.int .i64 x7) (.inl (show w.heap.size + 1 + 1 < _ from by omega))
  replace o11 := o11.set ⟨w.heap.size + 1 + 1, 7, none⟩ (.int .i64 x7) (.inl (show w.heap.size + 1 + 1 < _ from by omega))
  replace M := M.put ⟨w.heap.size + 1 + 1, 7, none⟩ (.int .i64 x7) (show w.heap.size ≤ w.heap.size + 1 + 1 from by omega)
  replace p0 := cell_set p0 ⟨w.heap.size + 1 + 1, 8, none⟩ (.int .i64 x8) (.inr (by simp))
  replace p1 := cell_set p1 ⟨w.heap.size + 1 + 1, 8, none⟩ (.int .i64 x8) (.inr (by simp))
  replace p2 := cell_set p2 ⟨w.heap.size + 1 + 1, 8, none⟩ (.int .i64 x8) (.inr (by simp))
  replace p3 := cell_set p3 ⟨w.heap.size + 1 + 1, 8, none⟩ (.int .i64 x8) (.inr (by simp))
  replace p4 := cell_set p4 ⟨w.heap.size + 1 + 1, 8, none⟩ (.int .i64 x8) (.inr (by simp))
  replace p5 := cell_set p5 ⟨w.heap.size + 1 + 1, 8, none⟩ (.int .i64 x8) (.inr (by simp))
  replace p6 := cell_set p6 ⟨w.heap.size + 1 + 1, 8, none⟩ (.int .i64 x8) (.inr (by simp))
  replace p7 := cell_set p7 ⟨w.heap.size + 1 + 1, 8, none⟩ (.int .i64 x8) (.inr (by simp))
  replace p8 := World.cell?_setCell_same _ _ (.int .i64 x8) p8
  replace p9 := cell_set p9 ⟨w.heap.size + 1 + 1, 8, none⟩ (.int .i64 x8) (.inr (by simp))
  replace p10 := cell_set p10 ⟨w.heap.size + 1 + 1, 8, none⟩ (.int .i64 x8) (.inr (by simp))
  replace p11 := cell_set p11 ⟨w.heap.size + 1 + 1, 8, none⟩ (.int .i64 x8) (.inr (by simp))
  replace r0 := cell_set r0 ⟨w.heap.size + 1 + 1, 8, none⟩ (.int .i64 x8) (.inl (show w.heap.size + 1 + 1 ≠ w.heap.size + 1 from by omega))
  replace r1 := cell_set r1 ⟨w.heap.size + 1 + 1, 8, none⟩ (.int .i64 x8) (.inl (show w.heap.size + 1 + 1 ≠ w.heap.size + 1 from by omega))
  replace r2 := cell_set r2 ⟨w.heap.size + 1 + 1, 8, none⟩ (.int .i64 x8) (.inl (show w.heap.size + 1 + 1 ≠ w.heap.size + 1 from by omega))
  replace r3 := cell_set r3 ⟨w.heap.size + 1 + 1, 8, none⟩ (.int .i64 x8) (.inl (show w.heap.size + 1 + 1 ≠ w.heap.size + 1 from by omega))
  replace r4 := cell_set r4 ⟨w.heap.size + 1 + 1, 8, none⟩ (.int .i64 x8) (.inl (show w.heap.size + 1 + 1 ≠ w.heap.size + 1 from by omega))
  replace r5 := cell_set r5 ⟨w.heap.size + 1 + 1, 8, none⟩ (.int .i64 x8) (.inl (show w.heap.size + 1 + 1 ≠ w.heap.size + 1 from by omega))
  replace r6 := cell_set r6 ⟨w.heap.size + 1 + 1, 8, none⟩ (.int .i64 x8) (.inl (show w.heap.size + 1 + 1 ≠ w.heap.size + 1 from by omega))
  replace r7 := cell_set r7 ⟨w.heap.size + 1 + 1, 8, none⟩ (.int .i64 x8) (.inl (show w.heap.size + 1 + 1 ≠ w.heap.size + 1 from by omega))
  replace r8 := cell_set r8 ⟨w.heap.size + 1 + 1, 8, none⟩ (.int .i64 x8) (.inl (show w.heap.size + 1 + 1 ≠ w.heap.size + 1 from by omega))
  replace r9 := cell_set r9 ⟨w.heap.size + 1 + 1, 8, none⟩ (.int .i64 x8) (.inl (show w.heap.size + 1 + 1 ≠ w.heap.size + 1 from by omega))
  replace r10 := cell_set r10 ⟨w.heap.size + 1 + 1, 8, none⟩ (.int .i64 x8) (.inl (show w.heap.size + 1 + 1 ≠ w.heap.size + 1 from by omega))
  replace r11 := cell_set r11 ⟨w.heap.size + 1 + 1, 8, none⟩ (.int .i64 x8) (.inl (show w.heap.size + 1 + 1 ≠ w.heap.size + 1 from by omega))
  replace fr := fun q => frozen_set (fr q) ⟨w.heap.size + 1 + 1, 8, none⟩ (.int .i64 x8)
  replace fp := fun q => frozen_set (fp q) ⟨w.heap.size + 1 + 1, 8, none⟩ (.int .i64 x8)
  replace o1 := o1.set ⟨w.heap.size + 1 + 1, 8, none⟩ (.int .i64 x8) (.inl (show w.heap.size + 1 + 1 < _ from by omega))
  replace o5 := o5.set ⟨w.heap.size + 1 + 1, 8, none⟩ (.int .i64 x8) (.inl (show w.heap.size + 1 + 1 < _ from by omega))
  replace o11 := o11.set ⟨w.heap.size + 1 + 1, 8, none⟩ (.int .i64 x8) (.inl (show w.heap.size + 1 + 1 < _ from by omega))
  replace M := M.put ⟨w.heap.size + 1 + 1, 8, none⟩ (.int .i64 x8) (show w.heap.size ≤ w.heap.size + 1 + 1 from by omega)
  replace p0 := cell_set p0 ⟨w.heap.size + 1 + 1, 9, none⟩ (.int .i64 x9) (.inr (by simp))
  replace p1 := cell_set p1 ⟨w.heap.size + 1 + 1, 9, none⟩ (.int .i64 x9) (.inr (by simp))
  replace p2 := cell_set p2 ⟨w.heap.size + 1 + 1, 9, none⟩ (.int .i64 x9) (.inr (by simp))
  replace p3 := cell_set p3 ⟨w.heap.size + 1 + 1, 9, none⟩ (.int .i64 x9) (.inr (by simp))
  replace p4 := cell_set p4 ⟨w.heap.size + 1 + 1, 9, none⟩ (.int .i64 x9) (.inr (by simp))
  replace p5 := cell_set p5 ⟨w.heap.size + 1 + 1, 9, none⟩ (.int .i64 x9) (.inr (by simp))
  replace p6 := cell_set p6 ⟨w.heap.size + 1 + 1, 9, none⟩ (.int .i64 x9) (.inr (by simp))
  replace p7 := cell_set p7 ⟨w.heap.size + 1 + 1, 9, none⟩ (.int .i64 x9) (.inr (by simp))
  replace p8 := cell_set p8 ⟨w.heap.size + 1 + 1, 9, none⟩ (.int .i64 x9) (.inr (by simp))
  replace p9 := World.cell?_setCell_same _ _ (.int .i64 x9) p9
  replace p10 := cell_set p10 ⟨w.heap.size + 1 + 1, 9, none⟩ (.int .i64 x9) (.inr (by simp))
  replace p11 := cell_set p11 ⟨w.heap.size + 1 + 1, 9, none⟩ (.int .i64 x9) (.inr (by simp))
  replace r0 := cell_set r0 ⟨w.heap.size + 1 + 1, 9, none⟩ (.int .i64 x9) (.inl (show w.heap.size + 1 + 1 ≠ w.heap.size + 1 from by omega))
  replace r1 := cell_set r1 ⟨w.heap.size + 1 + 1, 9, none⟩ (.int .i64 x9) (.inl (show w.heap.size + 1 + 1 ≠ w.heap.size + 1 from by omega))
  replace r2 := cell_set r2 ⟨w.heap.size + 1 + 1, 9, none⟩ (.int .i64 x9) (.inl (show w.heap.size + 1 + 1 ≠ w.heap.size + 1 from by omega))
  replace r3 := cell_set r3 ⟨w.heap.size + 1 + 1, 9, none⟩ (.int .i64 x9) (.inl (show w.heap.size + 1 + 1 ≠ w.heap.size + 1 from by omega))
  replace r4 := cell_set r4 ⟨w.heap.size + 1 + 1, 9, none⟩ (.int .i64 x9) (.inl (show w.heap.size + 1 + 1 ≠ w.heap.size + 1 from by omega))
  replace r5 := cell_set r5 ⟨w.heap.size + 1 + 1, 9, none⟩ (.int .i64 x9) (.inl (show w.heap.size + 1 + 1 ≠ w.heap.size + 1 from by omega))
  replace r6 := cell_set r6 ⟨w.heap.size + 1 + 1, 9, none⟩ (.int .i64 x9) (.inl (show w.heap.size + 1 + 1 ≠ w.heap.size + 1 from by omega))
  replace r7 := cell_set r7 ⟨w.heap.size + 1 + 1, 9, none⟩ (.int .i64 x9) (.inl (show w.heap.size + 1 + 1 ≠ w.heap.size + 1 from by omega))
  replace r8 := cell_set r8 ⟨w.heap.size + 1 + 1, 9, none⟩ (.int .i64 x9) (.inl (show w.heap.size + 1 + 1 ≠ w.heap.size + 1 from by omega))
  replace r9 := cell_set r9 ⟨w.heap.size + 1 + 1, 9, none⟩ (.int .i64 x9) (.inl (show w.heap.size + 1 + 1 ≠ w.heap.size + 1 from by omega))
  replace r10 := cell_set r10 ⟨w.heap.size + 1 + 1, 9, none⟩ (.int .i64 x9) (.inl (show w.heap.size + 1 + 1 ≠ w.heap.size + 1 from by omega))
  replace r11 := cell_set r11 ⟨w.heap.size + 1 + 1, 9, none⟩ (.int .i64 x9) (.inl (show w.heap.size + 1 + 1 ≠ w.heap.size + 1 from by omega))
  replace fr := fun q => frozen_set (fr q) ⟨w.heap.size + 1 + 1, 9, none⟩ (.int .i64 x9)
  replace fp := fun q => frozen_set (fp q) ⟨w.heap.size + 1 + 1, 9, none⟩ (.int .i64 x9)
  replace o1 := o1.set ⟨w.heap.size + 1 + 1, 9, none⟩ (.int .i64 x9) (.inl (show w.heap.size + 1 + 1 < _ from by omega))
  replace o5 := o5.set ⟨w.heap.size + 1 + 1, 9, none⟩ (.int .i64 x9) (.inl (show w.heap.size + 1 + 1 < _ from by omega))
  replace o11 := o11.set ⟨w.heap.size + 1 + 1, 9, none⟩ (.int .i64 x9) (.inl (show w.heap.size + 1 + 1 < _ from by omega))
  replace M := M.put ⟨w.heap.size + 1 + 1, 9, none⟩ (.int .i64 x9) (show w.heap.size ≤ w.heap.size + 1 + 1 from by omega)
  replace p0 := cell_set p0 ⟨w.heap.size + 1 + 1, 10, none⟩ (.int .i64 x10) (.inr (by simp))
  replace p1 := cell_set p1 ⟨w.heap.size + 1 + 1, 10, none⟩ (.int .i64 x10) (.inr (by simp))
  replace p2 := cell_set p2 ⟨w.heap.size + 1 + 1, 10, none⟩ (.int .i64 x10) (.inr (by simp))
  replace p3 := cell_set p3 ⟨w.heap.size + 1 + 1, 10, none⟩ (.int .i64 x10) (.inr (by simp))
  replace p4 := cell_set p4 ⟨w.heap.size + 1 + 1, 10, none⟩ (.int .i64 x10) (.inr (by simp))
  replace p5 := cell_set p5 ⟨w.heap.size + 1 + 1, 10, none⟩ (.int .i64 x10) (.inr (by simp))
  replace p6 := cell_set p6 ⟨w.heap.size + 1 + 1, 10, none⟩ (.int .i64 x10) (.inr (by simp))
  replace p7 := cell_set p7 ⟨w.heap.size + 1 + 1, 10, none⟩ (.int .i64 x10) (.inr (by simp))
  replace p8 := cell_set p8 ⟨w.heap.size + 1 + 1, 10, none⟩ (.int .i64 x10) (.inr (by simp))
  replace p9 := cell_set p9 ⟨w.heap.size + 1 + 1, 10, none⟩ (.int .i64 x10) (.inr (by simp))
  replace p10 := World.cell?_setCell_same _ _ (.int .i64 x10) p10
  replace p11 := cell_set p11 ⟨w.heap.size + 1 + 1, 10, none⟩ (.int .i64 x10) (.inr (by simp))
  replace r0 := cell_set r0 ⟨w.heap.size + 1 + 1, 10, none⟩ (.int .i64 x10) (.inl (show w.heap.size + 1 + 1 ≠ w.heap.size + 1 from by omega))
  replace r1 := cell_set r1 ⟨w.heap.size + 1 + 1, 10, none⟩ (.int .i64 x10) (.inl (show w.heap.size + 1 + 1 ≠ w.heap.size + 1 from by omega))
  replace r2 := cell_set r2 ⟨w.heap.size + 1 + 1, 10, none⟩ (.int .i64 x10) (.inl (show w.heap.size + 1 + 1 ≠ w.heap.size + 1 from by omega))
  replace r3 := cell_set r3 ⟨w.heap.size + 1 + 1, 10, none⟩ (.int .i64 x10) (.inl (show w.heap.size + 1 + 1 ≠ w.heap.size + 1 from by omega))
  replace r4 := cell_set r4 ⟨w.heap.size + 1 + 1, 10, none⟩ (.int .i64 x10) (.inl (show w.heap.size + 1 + 1 ≠ w.heap.size + 1 from by omega))
  replace r5 := cell_set r5 ⟨w.heap.size + 1 + 1, 10, none⟩ (.int .i64 x10) (.inl (show w.heap.size + 1 + 1 ≠ w.heap.size + 1 from by omega))
  replace r6 := cell_set r6 ⟨w.heap.size + 1 + 1, 10, none⟩ (.int .i64 x10) (.inl (show w.heap.size + 1 + 1 ≠ w.heap.size + 1 from by omega))
  replace r7 := cell_set r7 ⟨w.heap.size + 1 + 1, 10, none⟩ (.int .i64 x10) (.inl (show w.heap.size + 1 + 1 ≠ w.heap.size + 1 from by omega))
  replace r8 := cell_set r8 ⟨w.heap.size + 1 + 1, 10, none⟩ (.int .i64 x10) (.inl (show w.heap.size + 1 + 1 ≠ w.heap.size + 1 from by omega))
  replace r9 := cell_set r9 ⟨w.heap.size + 1 + 1, 10, none⟩ (.int .i64 x10) (.inl (show w.heap.size + 1 + 1 ≠ w.heap.size + 1 from by omega))
  replace r10 := cell_set r10 ⟨w.heap.size + 1 + 1, 10, none⟩ (.int .i64 x10) (.inl (show w.heap.size + 1 + 1 ≠ w.heap.size + 1 from by omega))
  replace r11 := cell_set r11 ⟨w.heap.size + 1 + 1, 10, none⟩ (.int .i64 x10) (.inl (show w.heap.size + 1 + 1 ≠ w.heap.size + 1 from by omega))
  replace fr := fun q => frozen_set (fr q) ⟨w.heap.size + 1 + 1, 10, none⟩ (.int .i64 x10)
  replace fp := fun q => frozen_set (fp q) ⟨w.heap.size + 1 + 1, 10, none⟩ (.int .i64 x10)
  replace o1 := o1.set ⟨w.heap.size + 1 + 1, 10, none⟩ (.int .i64 x10) (.inl (show w.heap.size + 1 + 1 < _ from by omega))
  replace o5 := o5.set ⟨w.heap.size + 1 + 1, 10, none⟩ (.int .i64 x10) (.inl (show w.heap.size + 1 + 1 < _ from by omega))
  replace o11 := o11.set ⟨w.heap.size + 1 + 1, 10, none⟩ (.int .i64 x10) (.inl (show w.heap.size + 1 + 1 < _ from by omega))
  replace M := M.put ⟨w.heap.size + 1 + 1, 10, none⟩ (.int .i64 x10) (show w.heap.size ≤ w.heap.size + 1 + 1 from by omega)
  replace p0 := cell_set p0 ⟨w.heap.size + 1 + 1, 11, none⟩ (.slice (some ⟨b11, 0, none⟩) n11 n11) (.inr (by simp))
  replace p1 := cell_set p1 ⟨w.heap.size + 1 + 1, 11, none⟩ (.slice (some ⟨b11, 0, none⟩) n11 n11) (.inr (by simp))
  replace p2 := cell_set p2 ⟨w.heap.size + 1 + 1, 11, none⟩ (.slice (some ⟨b11, 0, none⟩) n11 n11) (.inr (by simp))
  replace p3 := cell_set p3 ⟨w.heap.size + 1 + 1, 11, none⟩ (.slice (some ⟨b11, 0, none⟩) n11 n11) (.inr (by simp))
  replace p4 := cell_set p4 ⟨w.heap.size + 1 + 1, 11, none⟩ (.slice (some ⟨b11, 0, none⟩) n11 n11) (.inr (by simp))
  replace p5 := cell_set p5 ⟨w.heap.size + 1 + 1, 11, none⟩ (.slice (some ⟨b11, 0, none⟩) n11 n11) (.inr (by simp))
  replace p6 := cell_set p6 ⟨w.heap.size + 1 + 1, 11, none⟩ (.slice (some ⟨b11, 0, none⟩) n11 n11) (.inr (by simp))
  replace p7 := cell_set p7 ⟨w.heap.size + 1 + 1, 11, none⟩ (.slice (some ⟨b11, 0, none⟩) n11 n11) (.inr (by simp))
  replace p8 := cell_set p8 ⟨w.heap.size + 1 + 1, 11, none⟩ (.slice (some ⟨b11, 0, none⟩) n11 n11) (.inr (by simp))
  replace p9 := cell_set p9 ⟨w.heap.size + 1 + 1, 11, none⟩ (.slice (some ⟨b11, 0, none⟩) n11 n11) (.inr (by simp))
  replace p10 := cell_set p10 ⟨w.heap.size + 1 + 1, 11, none⟩ (.slice (some ⟨b11, 0, none⟩) n11 n11) (.inr (by simp))
  replace p11 := World.cell?_setCell_same _ _ (.slice (some ⟨b11, 0, none⟩) n11 n11) p11
  replace r0 := cell_set r0 ⟨w.heap.size + 1 + 1, 11, none⟩ (.slice (some ⟨b11, 0, none⟩) n11 n11) (.inl (show w.heap.size + 1 + 1 ≠ w.heap.size + 1 from by omega))
  replace r1 := cell_set r1 ⟨w.heap.size + 1 + 1, 11, none⟩ (.slice (some ⟨b11, 0, none⟩) n11 n11) (.inl (show w.heap.size + 1 + 1 ≠ w.heap.size + 1 from by omega))
  replace r2 := cell_set r2 ⟨w.heap.size + 1 + 1, 11, none⟩ (.slice (some ⟨b11, 0, none⟩) n11 n11) (.inl (show w.heap.size + 1 + 1 ≠ w.heap.size + 1 from by omega))
  replace r3 := cell_set r3 ⟨w.heap.size + 1 + 1, 11, none⟩ (.slice (some ⟨b11, 0, none⟩) n11 n11) (.inl (show w.heap.size + 1 + 1 ≠ w.heap.size + 1 from by omega))
  replace r4 := cell_set r4 ⟨w.heap.size + 1 + 1, 11, none⟩ (.slice (some ⟨b11, 0, none⟩) n11 n11) (.inl (show w.heap.size + 1 + 1 ≠ w.heap.size + 1 from by omega))
  replace r5 := cell_set r5 ⟨w.heap.size + 1 + 1, 11, none⟩ (.slice (some ⟨b11, 0, none⟩) n11 n11) (.inl (show w.heap.size + 1 + 1 ≠ w.heap.size + 1 from by omega))
  replace r6 := cell_set r6 ⟨w.heap.size + 1 + 1, 11, none⟩ (.slice (some ⟨b11, 0, none⟩) n11 n11) (.inl (show w.heap.size + 1 + 1 ≠ w.heap.size + 1 from by omega))
  replace r7 := cell_set r7 ⟨w.heap.size + 1 + 1, 11, none⟩ (.slice (some ⟨b11, 0, none⟩) n11 n11) (.inl (show w.heap.size + 1 + 1 ≠ w.heap.size + 1 from by omega))
  replace r8 := cell_set r8 ⟨w.heap.size + 1 + 1, 11, none⟩ (.slice (some ⟨b11, 0, none⟩) n11 n11) (.inl (show w.heap.size + 1 + 1 ≠ w.heap.size + 1 from by omega))
  replace r9 := cell_set r9 ⟨w.heap.size + 1 + 1, 11, none⟩ (.slice (some ⟨b11, 0, none⟩) n11 n11) (.inl (show w.heap.size + 1 + 1 ≠ w.heap.size + 1 from by omega))
  replace r10 := cell_set r10 ⟨w.heap.size + 1 + 1, 11, none⟩ (.slice (some ⟨b11, 0, none⟩) n11 n11) (.inl (show w.heap.size + 1 + 1 ≠ w.heap.size + 1 from by omega))
  replace r11 := cell_set r11 ⟨w.heap.size + 1 + 1, 11, none⟩ (.slice (some ⟨b11, 0, none⟩) n11 n11) (.inl (show w.heap.size + 1 + 1 ≠ w.heap.size + 1 from by omega))
  replace fr := fun q => frozen_set (fr q) ⟨w.heap.size + 1 + 1, 11, none⟩ (.slice (some ⟨b11, 0, none⟩) n11 n11)
  replace fp := fun q => frozen_set (fp q) ⟨w.heap.size + 1 + 1, 11, none⟩ (.slice (some ⟨b11, 0, none⟩) n11 n11)
  replace o1 := o1.set ⟨w.heap.size + 1 + 1, 11, none⟩ (.slice (some ⟨b11, 0, none⟩) n11 n11) (.inl (show w.heap.size + 1 + 1 < _ from by omega))
  replace o5 := o5.set ⟨w.heap.size + 1 + 1, 11, none⟩ (.slice (some ⟨b11, 0, none⟩) n11 n11) (.inl (show w.heap.size + 1 + 1 < _ from by omega))
  replace o11 := o11.set ⟨w.heap.size + 1 + 1, 11, none⟩ (.slice (some ⟨b11, 0, none⟩) n11 n11) (.inl (show w.heap.size + 1 + 1 < _ from by omega))
  replace M := M.put ⟨w.heap.size + 1 + 1, 11, none⟩ (.slice (some ⟨b11, 0, none⟩) n11 n11) (show w.heap.size ≤ w.heap.size + 1 + 1 from by omega)
  have zu2 : ((((((((((w2.setCell ⟨w.heap.size + 1 + 1, 2, none⟩ (.int .i64 x2)).setCell ⟨w.heap.size + 1 + 1, 3, none⟩ (.int .i64 x3)).setCell ⟨w.heap.size + 1 + 1, 4, none⟩ (.int .i64 x4)).setCell ⟨w.heap.size + 1 + 1, 5, none⟩ (.slice (some ⟨b5, 0, none⟩) n5 n5)).setCell ⟨w.heap.size + 1 + 1, 6, none⟩ (.int .i64 x6)).setCell ⟨w.heap.size + 1 + 1, 7, none⟩ (.int .i64 x7)).setCell ⟨w.heap.size + 1 + 1, 8, none⟩ (.int .i64 x8)).setCell ⟨w.heap.size + 1 + 1, 9, none⟩ (.int .i64 x9)).setCell ⟨w.heap.size + 1 + 1, 10, none⟩ (.int .i64 x10)).setCell ⟨w.heap.size + 1 + 1, 11, none⟩ (.slice (some ⟨b11, 0, none⟩) n11 n11)).heap.size = w2.heap.size := by simp [World.setCell]
  generalize ((((((((((w2.setCell ⟨w.heap.size + 1 + 1, 2, none⟩ (.int .i64 x2)).setCell ⟨w.heap.size + 1 + 1, 3, none⟩ (.int .i64 x3)).setCell ⟨w.heap.size + 1 + 1, 4, none⟩ (.int .i64 x4)).setCell ⟨w.heap.size + 1 + 1, 5, none⟩ (.slice (some ⟨b5, 0, none⟩) n5 n5)).setCell ⟨w.heap.size + 1 + 1, 6, none⟩ (.int .i64 x6)).setCell ⟨w.heap.size + 1 + 1, 7, none⟩ (.int .i64 x7)).setCell ⟨w.heap.size + 1 + 1, 8, none⟩ (.int .i64 x8)).setCell ⟨w.heap.size + 1 + 1, 9, none⟩ (.int .i64 x9)).setCell ⟨w.heap.size + 1 + 1, 10, none⟩ (.int .i64 x10)).setCell ⟨w.heap.size + 1 + 1, 11, none⟩ (.slice (some ⟨b11, 0, none⟩) n11 n11)) = u2 at *
  go_wp2_with fail
  replace r0 := World.cell?_setCell_same _ _ (.int .i64 x0) r0
  replace r1 := cell_set r1 ⟨w.heap.size + 1, 0, none⟩ (.int .i64 x0) (.inr (by simp))
  replace r2 := cell_set r2 ⟨w.heap.size + 1, 0, none⟩ (.int .i64 x0) (.inr (by simp))
  replace r3 := cell_set r3 ⟨w.heap.size + 1, 0, none⟩ (.int .i64 x0) (.inr (by simp))
  replace r4 := cell_set r4 ⟨w.heap.size + 1, 0, none⟩ (.int .i64 x0) (.inr (by simp))
  replace r5 := cell_set r5 ⟨w.heap.size + 1, 0, none⟩ (.int .i64 x0) (.inr (by simp))
  replace r6 := cell_set r6 ⟨w.heap.size + 1, 0, none⟩ (.int .i64 x0) (.inr (by simp))
  replace r7 := cell_set r7 ⟨w.heap.size + 1, 0, none⟩ (.int .i64 x0) (.inr (by simp))
  replace r8 := cell_set r8 ⟨w.heap.size + 1, 0, none⟩ (.int .i64 x0) (.inr (by simp))
  replace r9 := cell_set r9 ⟨w.heap.size + 1, 0, none⟩ (.int .i64 x0) (.inr (by simp))
  replace r10 := cell_set r10 ⟨w.heap.size + 1, 0, none⟩ (.int .i64 x0) (.inr (by simp))
  replace r11 := cell_set r11 ⟨w.heap.size + 1, 0, none⟩ (.int .i64 x0) (.inr (by simp))
  replace o1 := o1.set ⟨w.heap.size + 1, 0, none⟩ (.int .i64 x0) (.inl (show w.heap.size + 1 < _ from by omega))
  replace o5 := o5.set ⟨w.heap.size + 1, 0, none⟩ (.int .i64 x0) (.inl (show w.heap.size + 1 < _ from by omega))
  replace o11 := o11.set ⟨w.heap.size + 1, 0, none⟩ (.int .i64 x0) (.inl (show w.heap.size + 1 < _ from by omega))
  replace M := M.put ⟨w.heap.size + 1, 0, none⟩ (.int .i64 x0) (show w.heap.size ≤ w.heap.size + 1 from by omega)
  replace r0 := cell_set r0 ⟨w.heap.size + 1, 1, none⟩ (.slice (some ⟨b1, 0, none⟩) n1 n1) (.inr (by simp))
  replace r1 := World.cell?_setCell_same _ _ (.slice (some ⟨b1, 0, none⟩) n1 n1) r1
  replace r2 := cell_set r2 ⟨w.heap.size + 1, 1, none⟩ (.slice (some ⟨b1, 0, none⟩) n1 n1) (.inr (by simp))
  replace r3 := cell_set r3 ⟨w.heap.size + 1, 1, none⟩ (.slice (some ⟨b1, 0, none⟩) n1 n1) (.inr (by simp))
  replace r4 := cell_set r4 ⟨w.heap.size + 1, 1, none⟩ (.slice (some ⟨b1, 0, none⟩) n1 n1) (.inr (by simp))
  replace r5 := cell_set r5 ⟨w.heap.size + 1, 1, none⟩ (.slice (some ⟨b1, 0, none⟩) n1 n1) (.inr (by simp))
  replace r6 := cell_set r6 ⟨w.heap.size + 1, 1, none⟩ (.slice (some ⟨b1, 0, none⟩) n1 n1) (.inr (by simp))
  replace r7 := cell_set r7 ⟨w.heap.size + 1, 1, none⟩ (.slice (some ⟨b1, 0, none⟩) n1 n1) (.inr (by simp))
  replace r8 := cell_set r8 ⟨w.heap.size + 1, 1, none⟩ (.slice (some ⟨b1, 0, none⟩) n1 n1) (.inr (by simp))
  replace r9 := cell_set r9 ⟨w.heap.size + 1, 1, none⟩ (.slice (some ⟨b1, 0, none⟩) n1 n1) (.inr (by simp))
  replace r10 := cell_set r10 ⟨w.heap.size + 1, 1, none⟩ (.slice (some ⟨b1, 0, none⟩) n1 n1) (.inr (by simp))
  replace r11 := cell_set r11 ⟨w.heap.size + 1, 1, none⟩ (.slice (some ⟨b1, 0, none⟩) n1 n1) (.inr (by simp))
  replace o1 := o1.set ⟨w.heap.size + 1, 1, none⟩ (.slice (some ⟨b1, 0, none⟩) n1 n1) (.inl (show w.heap.size + 1 < _ from by omega))
  replace o5 := o5.set ⟨w.heap.size + 1, 1, none⟩ (.slice (some ⟨b1, 0, none⟩) n1 n1) (.inl (show w.heap.size + 1 < _ from by omega))
  replace o11 := o11.set ⟨w.heap.size + 1, 1, none⟩ (.slice (some ⟨b1, 0, none⟩) n1 n1) (.inl (show w.heap.size + 1 < _ from by omega))
  replace M := M.put ⟨w.heap.size + 1, 1, none⟩ (.slice (some ⟨b1, 0, none⟩) n1 n1) (show w.heap.size ≤ w.heap.size + 1 from by omega)
  replace r0 := cell_set r0 ⟨w.heap.size + 1, 2, none⟩ (.int .i64 x2) (.inr (by simp))
  replace r1 := cell_set r1 ⟨w.heap.size + 1, 2, none⟩ (.int .i64 x2) (.inr (by simp))
  replace r2 := World.cell?_setCell_same _ _ (.int .i64 x2) r2
  replace r3 := cell_set r3 ⟨w.heap.size + 1, 2, none⟩ (.int .i64 x2) (.inr (by simp))
  replace r4 := cell_set r4 ⟨w.heap.size + 1, 2, none⟩ (.int .i64 x2) (.inr (by simp))
  replace r5 := cell_set r5 ⟨w.heap.size + 1, 2, none⟩ (.int .i64 x2) (.inr (by simp))
  replace r6 := cell_set r6 ⟨w.heap.size + 1, 2, none⟩ (.int .i64 x2) (.inr (by simp))
  replace r7 := cell_set r7 ⟨w.heap.size + 1, 2, none⟩ (.int .i64 x2) (.inr (by simp))
  replace r8 := cell_set r8 ⟨w.heap.size + 1, 2, none⟩ (.int .i64 x2) (.inr (by simp))
  replace r9 := cell_set r9 ⟨w.heap.size + 1, 2, none⟩ (.int .i64 x2) (.inr (by simp))
  replace r10 := cell_set r10 ⟨w.heap.size + 1, 2, none⟩ (.int .i64 x2) (.inr (by simp))
  replace r11 := cell_set r11 ⟨w.heap.size + 1, 2, none⟩ (.int .i64 x2) (.inr (by simp))
  replace o1 := o1.set ⟨w.heap.size + 1, 2, none⟩ (.int .i64 x2) (.inl (show w.heap.size + 1 < _ from by omega))
  replace o5 := o5.set ⟨w.heap.size + 1, 2, none⟩ (.int .i64 x2) (.inl (show w.heap.size + 1 < _ from by omega))
  replace o11 := o11.set ⟨w.heap.size + 1, 2, none⟩ (.int .i64 x2) (.inl (show w.heap.size + 1 < _ from by omega))
  replace M := M.put ⟨w.heap.size + 1, 2, none⟩ (.int .i64 x2) (show w.heap.size ≤ w.heap.size + 1 from by omega)
  replace r0 := cell_set r0 ⟨w.heap.size + 1, 3, none⟩ (.int .i64 x3) (.inr (by simp))
  replace r1 := cell_set r1 ⟨w.heap.size + 1, 3, none⟩ (.int .i64 x3) (.inr (by simp))
  replace r2 := cell_set r2 ⟨w.heap.size + 1, 3, none⟩ (.int .i64 x3) (.inr (by simp))
  replace r3 := World.cell?_setCell_same _ _ (.int .i64 x3) r3
  replace r4 := cell_set r4 ⟨w.heap.size + 1, 3, none⟩ (.int .i64 x3) (.inr (by simp))
  replace r5 := cell_set r5 ⟨w.heap.size + 1, 3, none⟩ (.int .i64 x3) (.inr (by simp))
  replace r6 := cell_set r6 ⟨w.heap.size + 1, 3, none⟩ (.int .i64 x3) (.inr (by simp))
  replace r7 := cell_set r7 ⟨w.heap.size + 1, 3, none⟩ (.int .i64 x3) (.inr (by simp))
  replace r8 := cell_set r8 ⟨w.heap.size + 1, 3, none⟩ (.int .i64 x3) (.inr (by simp))
  replace r9 := cell_set r9 ⟨w.heap.size + 1, 3, none⟩ (.int .i64 x3) (.inr (by simp))
  replace r10 := cell_set r10 ⟨w.heap.size + 1, 3, none⟩ (.int .i64 x3) (.inr (by simp))
  replace r11 := cell_set r11 ⟨w.heap.size + 1, 3, none⟩ (.int .i64 x3) (.inr (by simp))
  replace o1 := o1.set ⟨w.heap.size + 1, 3, none⟩ (.int .i64 x3) (.inl (show w.heap.size + 1 < _ from by omega))
  replace o5 := o5.set ⟨w.heap.size + 1, 3, none⟩ (.int .i64 x3) (.inl (show w.heap.size + 1 < _ from by omega))
  replace o11 := o11.set ⟨w.heap.size + 1, 3, none⟩ (.int .i64 x3) (.inl (show w.heap.size + 1 < _ from by omega))
  replace M := M.put ⟨w.heap.size + 1, 3, none⟩ (.int .i64 x3) (show w.heap.size ≤ w.heap.size + 1 from by omega)
  replace r0 := cell_set r0 ⟨w.heap.size + 1, 4, none⟩ (.int .i64 x4) (.inr (by simp))
  replace r1 := cell_set r1 ⟨w.heap.size + 1, 4, none⟩ (.int .i64 x4) (.inr (by simp))
  replace r2 := cell_set r2 ⟨w.heap.size + 1, 4, none⟩ (.int .i64 x4) (.inr (by simp))
  replace r3 := cell_set r3 ⟨w.heap.size + 1, 4, none⟩ (.int .i64 x4) (.inr (by simp))
  replace r4 := World.cell?_setCell_same _ _ (.int .i64 x4) r4
  replace r5 := cell_set r5 ⟨w.heap.size + 1, 4, none⟩ (.int .i64 x4) (.inr (by simp))
  replace r6 := cell_set r6 ⟨w.heap.size + 1, 4, none⟩ (.int .i64 x4) (.inr (by simp))
  replace r7 := cell_set r7 ⟨w.heap.size + 1, 4, none⟩ (.int .i64 x4) (.inr (by simp))
  replace r8 := cell_set r8 ⟨w.heap.size + 1, 4, none⟩ (.int .i64 x4) (.inr (by simp))
  replace r9 := cell_set r9 ⟨w.heap.size + 1, 4, none⟩ (.int .i64 x4) (.inr (by simp))
  replace r10 := cell_set r10 ⟨w.heap.size + 1, 4, none⟩ (.int .i64 x4) (.inr (by simp))
  replace r11 := cell_set r11 ⟨w.heap.size + 1, 4, none⟩ (.int .i64 x4) (.inr (by simp))
  replace o1 := o1.set ⟨w.heap.size + 1, 4, none⟩ (.int .i64 x4) (.inl (show w.heap.size + 1 < _ from by omega))
  replace o5 := o5.set ⟨w.heap.size + 1, 4, none⟩ (.int .i64 x4) (.inl (show w.heap.size + 1 < _ from by omega))
  replace o11 := o11.set ⟨w.heap.size + 1, 4, none⟩ (.int .i64 x4) (.inl (show w.heap.size + 1 < _ from by omega))
  replace M := M.put ⟨w.heap.size + 1, 4, none⟩ (.int .i64 x4) (show w.heap.size ≤ w.heap.size + 1 from by omega)
  replace r0 := cell_set r0 ⟨w.heap.size + 1, 5, none⟩ (.slice (some ⟨b5, 0, none⟩) n5 n5) (.inr (by simp))
  replace r1 := cell_set r1 ⟨w.heap.size + 1, 5, none⟩ (.slice (some ⟨b5, 0, none⟩) n5 n5) (.inr (by simp))
  replace r2 := cell_set r2 ⟨w.heap.size + 1, 5, none⟩ (.slice (some ⟨b5, 0, none⟩) n5 n5) (.inr (by simp))
  replace r3 := cell_set r3 ⟨w.heap.size + 1, 5, none⟩ (.slice (some ⟨b5, 0, none⟩) n5 n5) (.inr (by simp))
  replace r4 := cell_set r4 ⟨w.heap.size + 1, 5, none⟩ (.slice (some ⟨b5, 0, none⟩) n5 n5) (.inr (by simp))
  replace r5 := World.cell?_setCell_same _ _ (.slice (some ⟨b5, 0, none⟩) n5 n5) r5
  replace r6 := cell_set r6 ⟨w.heap.size + 1, 5, none⟩ (.slice (some ⟨b5, 0, none⟩) n5 n5) (.inr (by simp))
  replace r7 := cell_set r7 ⟨w.heap.size + 1, 5, none⟩ (.slice (some ⟨b5, 0, none⟩) n5 n5) (.inr (by simp))
  replace r8 := cell_set r8 ⟨w.heap.size + 1, 5, none⟩ (.slice (some ⟨b5, 0, none⟩) n5 n5) (.inr (by simp))
  replace r9 := cell_set r9 ⟨w.heap.size + 1, 5, none⟩ (.slice (some ⟨b5, 0, none⟩) n5 n5) (.inr (by simp))
  replace r10 := cell_set r10 ⟨w.heap.size + 1, 5, none⟩ (.slice (some ⟨b5, 0, none⟩) n5 n5) (.inr (by simp))
  replace r11 := cell_set r11 ⟨w.heap.size + 1, 5, none⟩ (.slice (some ⟨b5, 0, none⟩) n5 n5) (.inr (by simp))
  replace o1 := o1.set ⟨w.heap.size + 1, 5, none⟩ (.slice (some ⟨b5, 0, none⟩) n5 n5) (.inl (show w.heap.size + 1 < _ from by omega))
  replace o5 := o5.set ⟨w.heap.size + 1, 5, none⟩ (.slice (some ⟨b5, 0, none⟩) n5 n5) (.inl (show w.heap.size + 1 < _ from by omega))
  replace o11 := o11.set ⟨w.heap.size + 1, 5, none⟩ (.slice (some ⟨b5, 0, none⟩) n5 n5) (.inl (show w.heap.size + 1 < _ from by omega))
  replace M := M.put ⟨w.heap.size + 1, 5, none⟩ (.slice (some ⟨b5, 0, none⟩) n5 n5) (show w.heap.size ≤ w.heap.size + 1 from by omega)
  replace r0 := cell_set r0 ⟨w.heap.size + 1, 6, none⟩ (.int .i64 x6) (.inr (by simp))
  replace r1 := cell_set r1 ⟨w.heap.size + 1, 6, none⟩ (.int .i64 x6) (.inr (by simp))
  replace r2 := cell_set r2 ⟨w.heap.size + 1, 6, none⟩ (.int .i64 x6) (.inr (by simp))
  replace r3 := cell_set r3 ⟨w.heap.size + 1, 6, none⟩ (.int .i64 x6) (.inr (by simp))
  replace r4 := cell_set r4 ⟨w.heap.size + 1, 6, none⟩ (.int .i64 x6) (.inr (by simp))
  replace r5 := cell_set r5 ⟨w.heap.size + 1, 6, none⟩ (.int .i64 x6) (.inr (by simp))
  replace r6 := World.cell?_setCell_same _ _ (.int .i64 x6) r6
  replace r7 := cell_set r7 ⟨w.heap.size + 1, 6, none⟩ (.int .i64 x6) (.inr (by simp))
  replace r8 := cell_set r8 ⟨w.heap.size + 1, 6, none⟩ (.int .i64 x6) (.inr (by simp))
  replace r9 := cell_set r9 ⟨w.heap.size + 1, 6, none⟩ (.int .i64 x6) (.inr (by simp))
  replace r10 := cell_set r10 ⟨w.heap.size + 1, 6, none⟩ (.int .i64 x6) (.inr (by simp))
  replace r11 := cell_set r11 ⟨w.heap.size + 1, 6, none⟩ (.int .i64 x6) (.inr (by simp))
  replace o1 := o1.set ⟨w.heap.size + 1, 6, none⟩ (.int .i64 x6) (.inl (show w.heap.size + 1 < _ from by omega))
  replace o5 := o5.set ⟨w.heap.size + 1, 6, none⟩ (.int .i64 x6) (.inl (show w.heap.size + 1 < _ from by omega))
  replace o11 := o11.set ⟨w.heap.size + 1, 6, none⟩ (.int .i64 x6) (.inl (show w.heap.size + 1 < _ from by omega))
  replace M := M.put ⟨w.heap.size + 1, 6, none⟩ (.int .i64 x6) (show w.heap.size ≤ w.heap.size + 1 from by omega)
  replace r0 := cell_set r0 ⟨w.heap.size + 1, 7, none⟩ (.int .i64 x7) (.inr (by simp))
  replace r1 := cell_set r1 ⟨w.heap.size + 1, 7, none⟩ (.int .i64 x7) (.inr (by simp))
  replace r2 := cell_set r2 ⟨w.heap.size + 1, 7, none⟩ (.int .i64 x7) (.inr (by simp))
  replace r3 := cell_set r3 ⟨w.heap.size + 1, 7, none⟩ (.int .i64 x7) (.inr (by simp))
  replace r4 := cell_set r4 ⟨w.heap.size + 1, 7, none⟩ (.int .i64 x7) (.inr (by simp))
  replace r5 := cell_set r5 ⟨w.heap.size + 1, 7, none⟩ (.int .i64 x7) (.inr (by simp))
  replace r6 := cell_set r6 ⟨w.heap.size + 1, 7, none⟩ (.int .i64 x7) (.inr (by simp))
  replace r7 := World.cell?_setCell_same _ _ (.int .i64 x7) r7
  replace r8 := cell_set r8 ⟨w.heap.size + 1, 7, none⟩ (.int .i64 x7) (.inr (by simp))
  replace r9 := cell_set r9 ⟨w.heap.size + 1, 7, none⟩ (.int .i64 x7) (.inr (by simp))
  replace r10 := cell_set r10 ⟨w.heap.size + 1, 7, none⟩ (.int .i64 x7) (.inr (by simp))
  replace r11 := cell_set r11 ⟨w.heap.size + 1, 7, none⟩ (.int .i64 x7) (.inr (by simp))
  replace o1 := o1.set ⟨w.heap.size + 1, 7, none⟩ (.int .i64 x7) (.inl (show w.heap.size + 1 < _ from by omega))
  replace o5 := o5.set ⟨w.heap.size + 1, 7, none⟩ (.int .i64 x7) (.inl (show w.heap.size + 1 < _ from by omega))
  replace o11 := o11.set ⟨w.heap.size + 1, 7, none⟩ (.int .i64 x7) (.inl (show w.heap.size + 1 < _ from by omega))
  replace M := M.put ⟨w.heap.size + 1, 7, none⟩ (.int .i64 x7) (show w.heap.size ≤ w.heap.size + 1 from by omega)
  replace r0 := cell_set r0 ⟨w.heap.size + 1, 8, none⟩ (.int .i64 x8) (.inr (by simp))
  replace r1 := cell_set r1 ⟨w.heap.size + 1, 8, none⟩ (.int .i64 x8) (.inr (by simp))
  replace r2 := cell_set r2 ⟨w.heap.size + 1, 8, none⟩ (.int .i64 x8) (.inr (by simp))
  replace r3 := cell_set r3 ⟨w.heap.size + 1, 8, none⟩ (.int .i64 x8) (.inr (by simp))
  replace r4 := cell_set r4 ⟨w.heap.size + 1, 8, none⟩ (.int .i64 x8) (.inr (by simp))
  replace r5 := cell_set r5 ⟨w.heap.size + 1, 8, none⟩ (.int .i64 x8) (.inr (by simp))
  replace r6 := cell_set r6 ⟨w.heap.size + 1, 8, none⟩ (.int .i64 x8) (.inr (by simp))
  replace r7 := cell_set r7 ⟨w.heap.size + 1, 8, none⟩ (.int .i64 x8) (.inr (by simp))
  replace r8 := World.cell?_setCell_same _ _ (.int .i64 x8) r8
  replace r9 := cell_set r9 ⟨w.heap.size + 1, 8, none⟩ (.int .i64 x8) (.inr (by simp))
  replace r10 := cell_set r10 ⟨w.heap.size + 1, 8, none⟩ (.int .i64 x8) (.inr (by simp))
  replace r11 := cell_set r11 ⟨w.heap.size + 1, 8, none⟩ (.int .i64 x8) (.inr (by simp))
  replace o1 := o1.set ⟨w.heap.size + 1, 8, none⟩ (.int .i64 x8) (.inl (show w.heap.size + 1 < _ from by omega))
  replace o5 := o5.set ⟨w.heap.size + 1, 8, none⟩ (.int .i64 x8) (.inl (show w.heap.size + 1 < _ from by omega))
  replace o11 := o11.set ⟨w.heap.size + 1, 8, none⟩ (.int .i64 x8) (.inl (show w.heap.size + 1 < _ from by omega))
  replace M := M.put ⟨w.heap.size + 1, 8, none⟩ (.int .i64 x8) (show w.heap.size ≤ w.heap.size + 1 from by omega)
  replace r0 := cell_set r0 ⟨w.heap.size + 1, 9, none⟩ (.int .i64 x9) (.inr (by simp))
  replace r1 := cell_set r1 ⟨w.heap.size + 1, 9, none⟩ (.int .i64 x9) (.inr (by simp))
  replace r2 := cell_set r2 ⟨w.heap.size + 1, 9, none⟩ (.int .i64 x9) (.inr (by simp))
  replace r3 := cell_set r3 ⟨w.heap.size + 1, 9, none⟩ (.int .i64 x9) (.inr (by simp))
  replace r4 := cell_set r4 ⟨w.heap.size + 1, 9, none⟩ (.int .i64 x9) (.inr (by simp))
  replace r5 := cell_set r5 ⟨w.heap.size + 1, 9, none⟩ (.int .i64 x9) (.inr (by simp))
  replace r6 := cell_set r6 ⟨w.heap.size + 1, 9, none⟩ (.int .i64 x9) (.inr (by simp))
  replace r7 := cell_set r7 ⟨w.heap.size + 1, 9, none⟩ (.int .i64 x9) (.inr (by simp))
  replace r8 := cell_set r8 ⟨w.heap.size + 1, 9, none⟩ (.int .i64 x9) (.inr (by simp))
  replace r9 := World.cell?_setCell_same _ _ (.int .i64 x9) r9
  replace r10 := cell_set r10 ⟨w.heap.size + 1, 9, none⟩ (.int .i64 x9) (.inr (by simp))
  replace r11 := cell_set r11 ⟨w.heap.size + 1, 9, none⟩ (.int .i64 x9) (.inr (by simp))
  replace o1 := o1.set ⟨w.heap.size + 1, 9, none⟩ (.int .i64 x9) (.inl (show w.heap.size + 1 < _ from by omega))
  replace o5 := o5.set ⟨w.heap.size + 1, 9, none⟩ (.int .i64 x9) (.inl (show w.heap.size + 1 < _ from by omega))
  replace o11 := o11.set ⟨w.heap.size + 1, 9, none⟩ (.int .i64 x9) (.inl (show w.heap.size + 1 < _ from by omega))
  replace M := M.put ⟨w.heap.size + 1, 9, none⟩ (.int .i64 x9) (show w.heap.size ≤ w.heap.size + 1 from by omega)
  replace r0 := cell_set r0 ⟨w.heap.size + 1, 10, none⟩ (.int .i64 x10) (.inr (by simp))
  replace r1 := cell_set r1 ⟨w.heap.size + 1, 10, none⟩ (.int .i64 x10) (.inr (by simp))
  replace r2 := cell_set r2 ⟨w.heap.size + 1, 10, none⟩ (.int .i64 x10) (.inr (by simp))
  replace r3 := cell_set r3 ⟨w.heap.size + 1, 10, none⟩ (.int .i64 x10) (.inr (by simp))
  replace r4 := cell_set r4 ⟨w.heap.size + 1, 10, none⟩ (.int .i64 x10) (.inr (by simp))
  replace r5 := cell_set r5 ⟨w.heap.size + 1, 10, none⟩ (.int .i64 x10) (.inr (by simp))
  replace r6 := cell_set r6 ⟨w.heap.size + 1, 10, none⟩ (.int .i64 x10) (.inr (by simp))
  replace r7 := cell_set r7 ⟨w.heap.size + 1, 10, none⟩ (.int .i64 x10) (.inr (by simp))
  replace r8 := cell_set r8 ⟨w.heap.size + 1, 10, none⟩ (.int .i64 x10) (.inr (by simp))
  replace r9 := cell_set r9 ⟨w.heap.size + 1, 10, none⟩ (.int .i64 x10) (.inr (by simp))
  replace r10 := World.cell?_setCell_same _ _ (.int .i64 x10) r10
  replace r11 := cell_set r11 ⟨w.heap.size + 1, 10, none⟩ (.int .i64 x10) (.inr (by simp))
  replace o1 := o1.set ⟨w.heap.size + 1, 10, none⟩ (.int .i64 x10) (.inl (show w.heap.size + 1 < _ from by omega))
  replace o5 := o5.set ⟨w.heap.size + 1, 10, none⟩ (.int .i64 x10) (.inl (show w.heap.size + 1 < _ from by omega))
  replace o11 := o11.set ⟨w.heap.size + 1, 10, none⟩ (.int .i64 x10) (.inl (show w.heap.size + 1 < _ from by omega))
  replace M := M.put ⟨w.heap.size + 1, 10, none⟩ (.int .i64 x10) (show w.heap.size ≤ w.heap.size + 1 from by omega)
  replace r0 := cell_set r0 ⟨w.heap.size + 1, 11, none⟩ (.slice (some ⟨b11, 0, none⟩) n11 n11) (.inr (by simp))
  replace r1 := cell_set r1 ⟨w.heap.size + 1, 11, none⟩ (.slice (some ⟨b11, 0, none⟩) n11 n11) (.inr (by simp))
  replace r2 := cell_set r2 ⟨w.heap.size + 1, 11, none⟩ (.slice (some ⟨b11, 0, none⟩) n11 n11) (.inr (by simp))
  replace r3 := cell_set r3 ⟨w.heap.size + 1, 11, none⟩ (.slice (some ⟨b11, 0, none⟩) n11 n11) (.inr (by simp))
  replace r4 := cell_set r4 ⟨w.heap.size + 1, 11, none⟩ (.slice (some ⟨b11, 0, none⟩) n11 n11) (.inr (by simp))
  replace r5 := cell_set r5 ⟨w.heap.size + 1, 11, none⟩ (.slice (some ⟨b11, 0, none⟩) n11 n11) (.inr (by simp))
  replace r6 := cell_set r6 ⟨w.heap.size + 1, 11, none⟩ (.slice (some ⟨b11, 0, none⟩) n11 n11) (.inr (by simp))
  replace r7 := cell_set r7 ⟨w.heap.size + 1, 11, none⟩ (.slice (some ⟨b11, 0, none⟩) n11 n11) (.inr (by simp))
  replace r8 := cell_set r8 ⟨w.heap.size + 1, 11, none⟩ (.slice (some ⟨b11, 0, none⟩) n11 n11) (.inr (by simp))
  replace r9 := cell_set r9 ⟨w.heap.size + 1, 11, none⟩ (.slice (some ⟨b11, 0, none⟩) n11 n11) (.inr (by simp))
  replace r10 := cell_set r10 ⟨w.heap.size + 1, 11, none⟩ (.slice (some ⟨b11, 0, none⟩) n11 n11) (.inr (by simp))
  replace r11 := World.cell?_setCell_same _ _ (.slice (some ⟨b11, 0, none⟩) n11 n11) r11
  replace o1 := o1.set ⟨w.heap.size + 1, 11, none⟩ (.slice (some ⟨b11, 0, none⟩) n11 n11) (.inl (show w.heap.size + 1 < _ from by omega))
  replace o5 := o5.set ⟨w.heap.size + 1, 11, none⟩ (.slice (some ⟨b11, 0, none⟩) n11 n11) (.inl (show w.heap.size + 1 < _ from by omega))
  replace o11 := o11.set ⟨w.heap.size + 1, 11, none⟩ (.slice (some ⟨b11, 0, none⟩) n11 n11) (.inl (show w.heap.size + 1 < _ from by omega))
  replace M := M.put ⟨w.heap.size + 1, 11, none⟩ (.slice (some ⟨b11, 0, none⟩) n11 n11) (show w.heap.size ≤ w.heap.size + 1 from by omega)
  clear p0 p1 p2 p3 p4 p5 p6 p7 p8 p9 p10 p11 fr fp
  have zF : ((((((((((((u2.setCell ⟨w.heap.size + 1, 0, none⟩ (.int .i64 x0)).setCell ⟨w.heap.size + 1, 1, none⟩ (.slice (some ⟨b1, 0, none⟩) n1 n1)).setCell ⟨w.heap.size + 1, 2, none⟩ (.int .i64 x2)).setCell ⟨w.heap.size + 1, 3, none⟩ (.int .i64 x3)).setCell ⟨w.heap.size + 1, 4, none⟩ (.int .i64 x4)).setCell ⟨w.heap.size + 1, 5, none⟩ (.slice (some ⟨b5, 0, none⟩) n5 n5)).setCell ⟨w.heap.size + 1, 6, none⟩ (.int .i64 x6)).setCell ⟨w.heap.size + 1, 7, none⟩ (.int .i64 x7)).setCell ⟨w.heap.size + 1, 8, none⟩ (.int .i64 x8)).setCell ⟨w.heap.size + 1, 9, none⟩ (.int .i64 x9)).setCell ⟨w.heap.size + 1, 10, none⟩ (.int .i64 x10)).setCell ⟨w.heap.size + 1, 11, none⟩ (.slice (some ⟨b11, 0, none⟩) n11 n11)).heap.size = u2.heap.size := by simp [World.setCell]
  generalize ((((((((((((u2.setCell ⟨w.heap.size + 1, 0, none⟩ (.int .i64 x0)).setCell ⟨w.heap.size + 1, 1, none⟩ (.slice (some ⟨b1, 0, none⟩) n1 n1)).setCell ⟨w.heap.size + 1, 2, none⟩ (.int .i64 x2)).setCell ⟨w.heap.size + 1, 3, none⟩ (.int .i64 x3)).setCell ⟨w.heap.size + 1, 4, none⟩ (.int .i64 x4)).setCell ⟨w.heap.size + 1, 5, none⟩ (.slice (some ⟨b5, 0, none⟩) n5 n5)).setCell ⟨w.heap.size + 1, 6, none⟩ (.int .i64 x6)).setCell ⟨w.heap.size + 1, 7, none⟩ (.int .i64 x7)).setCell ⟨w.heap.size + 1, 8, none⟩ (.int .i64 x8)).setCell ⟨w.heap.size + 1, 9, none⟩ (.int .i64 x9)).setCell ⟨w.heap.size + 1, 10, none⟩ (.int .i64 x10)).setCell ⟨w.heap.size + 1, 11, none⟩ (.slice (some ⟨b11, 0, none⟩) n11 n11)) = WF at *
  refine bodyPost_ret (v := .agg #[.int .i64 x0, .slice (some ⟨b1, 0, none⟩) n1 n1, .int .i64 x2, .int .i64 x3, .int .i64 x4, .slice (some ⟨b5, 0, none⟩) n5 n5, .int .i64 x6, .int .i64 x7, .int .i64 x8, .int .i64 x9, .int .i64 x10, .slice (some ⟨b11, 0, none⟩) n11 n11]) (by simp [results, Tryd.results19, go_sem, r0, r1, r2, r3, r4, r5, r6, r7, r8, r9, r10, r11]) rfl ⟨b1, b5, b11, u1.heap.size, d5, rfl, ?_, ?_, ?_, ?_, ?_, ?_, M⟩
  · exact o1.wide (by omega) (by omega)
  · exact o5.wide (by omega) (by omega)
  · exact o11.wide (by omega) (by omega)
  · omega
  · omega
  · omega

set_option maxRecDepth 100000 in
set_option maxHeartbeats 4000000 in
theorem eqTraceC (x0 : Int) (x2 : Int) (x3 : Int) (x4 : Int) (x6 : Int) (x7 : Int) (x8 : Int) (x9 : Int) (x10 : Int) (a1 a1' : Option Addr) (n1 c1 c1' : Nat) (z1 : List TStep) (a5 a5' : Option Addr) (n5 c5 c5' : Nat) (z5 : List TPathPart) (a11 a11' : Option Addr) (n11 c11 c11' : Nat) (z11 : List TByte) (B B' : Nat) (w : World) (h1 : HasStep w B a1 n1 z1) (h5 : HasPathPart w B a5 n5 z5) (h11 : HasByte w B a11 n11 z11) (h1' : HasStep w B' a1' n1 z1) (h5' : HasPathPart w B' a5' n5 z5) (h11' : HasByte w B' a11' n11 z11) (hB : B ≤ w.heap.size) (hB' : B' ≤ w.heap.size) (hn1 : n1 ≤ 1048576) (hn5 : szPathPart z5 n5 ≤ 1048576) (hn11 : n11 ≤ 1048576) :
    Calls Tryd.prog 21 #[.agg #[.int .i64 x0, .slice a1 n1 c1, .int .i64 x2, .int .i64 x3, .int .i64 x4, .slice a5 n5 c5, .int .i64 x6, .int .i64 x7, .int .i64 x8, .int .i64 x9, .int .i64 x10, .slice a11 n11 c11], .agg #[.int .i64 x0, .slice a1' n1 c1', .int .i64 x2, .int .i64 x3, .int .i64 x4, .slice a5' n5 c5', .int .i64 x6, .int .i64 x7, .int .i64 x8, .int .i64 x9, .int .i64 x10, .slice a11' n11 c11']] w fun e w' => e = .returned (.bool true) ∧ Mk0 w w' := by
  have M := (Mk.alloc w (Obj.cells #[Value.int .i64 x0, Value.slice a1 n1 c1, Value.int .i64 x2, Value.int .i64 x3, Value.int .i64 x4, Value.slice a5 n5 c5, Value.int .i64 x6, Value.int .i64 x7, Value.int .i64 x8, Value.int .i64 x9, Value.int .i64 x10, Value.slice a11 n11 c11] 72)).new (Obj.cells #[Value.int .i64 x0, Value.slice a1' n1 c1', Value.int .i64 x2, Value.int .i64 x3, Value.int .i64 x4, Value.slice a5' n5 c5', Value.int .i64 x6, Value.int .i64 x7, Value.int .i64 x8, Value.int .i64 x9, Value.int .i64 x10, Value.slice a11' n11 c11'] 72)
  have k1 : ((w.alloc (Obj.cells #[Value.int .i64 x0, Value.slice a1 n1 c1, Value.int .i64 x2, Value.int .i64 x3, Value.int .i64 x4, Value.slice a5 n5 c5, Value.int .i64 x6, Value.int .i64 x7, Value.int .i64 x8, Value.int .i64 x9, Value.int .i64 x10, Value.slice a11 n11 c11] 72)).alloc (Obj.cells #[Value.int .i64 x0, Value.slice a1' n1 c1', Value.int .i64 x2, Value.int .i64 x3, Value.int .i64 x4, Value.slice a5' n5 c5', Value.int .i64 x6, Value.int .i64 x7, Value.int .i64 x8, Value.int .i64 x9, Value.int .i64 x10, Value.slice a11' n11 c11'] 72)).cell? ⟨w.heap.size, 1, none⟩ = some (.slice a1 n1 c1) := by simp [go_sem]
  have k2 : ((w.alloc (Obj.cells #[Value.int .i64 x0, Value.slice a1 n1 c1, Value.int .i64 x2, Value.int .i64 x3, Value.int .i64 x4, Value.slice a5 n5 c5, Value.int .i64 x6, Value.int .i64 x7, Value.int .i64 x8, Value.int .i64 x9, Value.int .i64 x10, Value.slice a11 n11 c11] 72)).alloc (Obj.cells #[Value.int .i64 x0, Value.slice a1' n1 c1', Value.int .i64 x2, Value.int .i64 x3, Value.int .i64 x4, Value.slice a5' n5 c5', Value.int .i64 x6, Value.int .i64 x7, Value.int .i64 x8, Value.int .i64 x9, Value.int .i64 x10, Value.slice a11' n11 c11'] 72)).cell? ⟨w.heap.size, 2, none⟩ = some (.int .i64 x2) := by simp [go_sem]
  have k3 : ((w.alloc (Obj.cells #[Value.int .i64 x0, Value.slice a1 n1 c1, Value.int .i64 x2, Value.int .i64 x3, Value.int .i64 x4, Value.slice a5 n5 c5, Value.int .i64 x6, Value.int .i64 x7, Value.int .i64 x8, Value.int .i64 x9, Value.int .i64 x10, Value.slice a11 n11 c11] 72)).alloc (Obj.cells #[Value.int .i64 x0, Value.slice a1' n1 c1', Value.int .i64 x2, Value.int .i64 x3, Value.int .i64 x4, Value.slice a5' n5 c5', Value.int .i64 x6, Value.int .i64 x7, Value.int .i64 x8, Value.int .i64 x9, Value.int .i64 x10, Value.slice a11' n11 c11'] 72)).cell? ⟨w.heap.size, 3, none⟩ = some (.int .i64 x3) := by simp [go_sem]
  have k4 : ((w.alloc (Obj.cells #[Value.int .i64 x0, Value.slice a1 n1 c1, Value.int .i64 x2, Value.int .i64 x3, Value.int .i64 x4, Value.slice a5 n5 c5, Value.int .i64 x6, Value.int .i64 x7, Value.int .i64 x8, Value.int .i64 x9, Value.int .i64 x10, Value.slice a11 n11 c11] 72)).alloc (Obj.cells #[Value.int .i64 x0, Value.slice a1' n1 c1', Value.int .i64 x2, Value.int .i64 x3, Value.int .i64 x4, Value.slice a5' n5 c5', Value.int .i64 x6, Value.int .i64 x7, Value.int .i64 x8, Value.int .i64 x9, Value.int .i64 x10, Value.slice a11' n11 c11'] 72)).cell? ⟨w.heap.size, 4, none⟩ = some (.int .i64 x4) := by simp [go_sem]
  have k5 : ((w.alloc (Obj.cells #[Value.int .i64 x0, Value.slice a1 n1 c1, Value.int .i64 x2, Value.int .i64 x3, Value.int .i64 x4, Value.slice a5 n5 c5, Value.int .i64 x6, Value.int .i64 x7, Value.int .i64 x8, Value.int .i64 x9, Value.int .i64 x10, Value.slice a11 n11 c11] 72)).alloc (Obj.cells #[Value.int .i64 x0, Value.slice a1' n1 c1', Value.int .i64 x2, Value.int .i64 x3, Value.int .i64 x4, Value.slice a5' n5 c5', Value.int .i64 x6, Value.int .i64 x7, Value.int .i64 x8, Value.int .i64 x9, Value.int .i64 x10, Value.slice a11' n11 c11'] 72)).cell? ⟨w.heap.size, 5, none⟩ = some (.slice a5 n5 c5) := by simp [go_sem]
  have k6 : ((w.alloc (Obj.cells #[Value.int .i64 x0, Value.slice a1 n1 c1, Value.int .i64 x2, Value.int .i64 x3, Value.int .i64 x4, Value.slice a5 n5 c5, Value.int .i64 x6, Value.int .i64 x7, Value.int .i64 x8, Value.int .i64 x9, Value.int .i64 x10, Value.slice a11 n11 c11] 72)).alloc (Obj.cells #[Value.int .i64 x0, Value.slice a1' n1 c1', Value.int .i64 x2, Value.int .i64 x3, Value.int .i64 x4, Value.slice a5' n5 c5', Value.int .i64 x6, Value.int .i64 x7, Value.int .i64 x8, Value.int .i64 x9, Value.int .i64 x10, Value.slice a11' n11 c11'] 72)).cell? ⟨w.heap.size, 6, none⟩ = some (.int .i64 x6) := by simp [go_sem]
  have k7 : ((w.alloc (Obj.cells #[Value.int .i64 x0, Value.slice a1 n1 c1, Value.int .i64 x2, Value.int .i64 x3, Value.int .i64 x4, Value.slice a5 n5 c5, Value.int .i64 x6, Value.int .i64 x7, Value.int .i64 x8, Value.int .i64 x9, Value.int .i64 x10, Value.slice a11 n11 c11] 72)).alloc (Obj.cells #[Value.int .i64 x0, Value.slice a1' n1 c1', Value.int .i64 x2, Value.int .i64 x3, Value.int .i64 x4, Value.slice a5' n5 c5', Value.int .i64 x6, Value.int .i64 x7, Value.int .i64 x8, Value.int .i64 x9, Value.int .i64 x10, Value.slice a11' n11 c11'] 72)).cell? ⟨w.heap.size, 7, none⟩ = some (.int .i64 x7) := by simp [go_sem]
  have k8 : ((w.alloc (Obj.cells #[Value.int .i64 x0, Value.slice a1 n1 c1, Value.int .i64 x2, Value.int .i64 x3, Value.int .i64 x4, Value.slice a5 n5 c5, Value.int .i64 x6, Value.int .i64 x7, Value.int .i64 x8, Value.int .i64 x9, Value.int .i64 x10, Value.slice a11 n11 c11] 72)).alloc (Obj.cells #[Value.int .i64 x0, Value.slice a1' n1 c1', Value.int .i64 x2, Value.int .i64 x3, Value.int .i64 x4, Value.slice a5' n5 c5', Value.int .i64 x6, Value.int .i64 x7, Value.int .i64 x8, Value.int .i64 x9, Value.int .i64 x10, Value.slice a11' n11 c11'] 72)).cell? ⟨w.heap.size, 8, none⟩ = some (.int .i64 x8) := by simp [go_sem]
  have k9 : ((w.alloc (Obj.cells #[Value.int .i64 x0, Value.slice a1 n1 c1, Value.int .i64 x2, Value.int .i64 x3, Value.int .i64 x4, Value.slice a5 n5 c5, Value.int .i64 x6, Value.int .i64 x7, Value.int .i64 x8, Value.int .i64 x9, Value.int .i64 x10, Value.slice a11 n11 c11] 72)).alloc (Obj.cells #[Value.int .i64 x0, Value.slice a1' n1 c1', Value.int .i64 x2, Value.int .i64 x3, Value.int .i64 x4, Value.slice a5' n5 c5', Value.int .i64 x6, Value.int .i64 x7, Value.int .i64 x8, Value.int .i64 x9, Value.int .i64 x10, Value.slice a11' n11 c11'] 72)).cell? ⟨w.heap.size, 9, none⟩ = some (.int .i64 x9) := by simp [go_sem]
  have k10 : ((w.alloc (Obj.cells #[Value.int .i64 x0, Value.slice a1 n1 c1, Value.int .i64 x2, Value.int .i64 x3, Value.int .i64 x4, Value.slice a5 n5 c5, Value.int .i64 x6, Value.int .i64 x7, Value.int .i64 x8, Value.int .i64 x9, Value.int .i64 x10, Value.slice a11 n11 c11] 72)).alloc (Obj.cells #[Value.int .i64 x0, Value.slice a1' n1 c1', Value.int .i64 x2, Value.int .i64 x3, Value.int .i64 x4, Value.slice a5' n5 c5', Value.int .i64 x6, Value.int .i64 x7, Value.int .i64 x8, Value.int .i64 x9, Value.int .i64 x10, Value.slice a11' n11 c11'] 72)).cell? ⟨w.heap.size, 10, none⟩ = some (.int .i64 x10) := by simp [go_sem]
  have k11 : ((w.alloc (Obj.cells #[Value.int .i64 x0, Value.slice a1 n1 c1, Value.int .i64 x2, Value.int .i64 x3, Value.int .i64 x4, Value.slice a5 n5 c5, Value.int .i64 x6, Value.int .i64 x7, Value.int .i64 x8, Value.int .i64 x9, Value.int .i64 x10, Value.slice a11 n11 c11] 72)).alloc (Obj.cells #[Value.int .i64 x0, Value.slice a1' n1 c1', Value.int .i64 x2, Value.int .i64 x3, Value.int .i64 x4, Value.slice a5' n5 c5', Value.int .i64 x6, Value.int .i64 x7, Value.int .i64 x8, Value.int .i64 x9, Value.int .i64 x10, Value.slice a11' n11 c11'] 72)).cell? ⟨w.heap.size, 11, none⟩ = some (.slice a11 n11 c11) := by simp [go_sem]
  have s1 : ((w.alloc (Obj.cells #[Value.int .i64 x0, Value.slice a1 n1 c1, Value.int .i64 x2, Value.int .i64 x3, Value.int .i64 x4, Value.slice a5 n5 c5, Value.int .i64 x6, Value.int .i64 x7, Value.int .i64 x8, Value.int .i64 x9, Value.int .i64 x10, Value.slice a11 n11 c11] 72)).alloc (Obj.cells #[Value.int .i64 x0, Value.slice a1' n1 c1', Value.int .i64 x2, Value.int .i64 x3, Value.int .i64 x4, Value.slice a5' n5 c5', Value.int .i64 x6, Value.int .i64 x7, Value.int .i64 x8, Value.int .i64 x9, Value.int .i64 x10, Value.slice a11' n11 c11'] 72)).cell? ⟨w.heap.size + 1, 1, none⟩ = some (.slice a1' n1 c1') := by simp [go_sem]
  have s2 : ((w.alloc (Obj.cells #[Value.int .i64 x0, Value.slice a1 n1 c1, Value.int .i64 x2, Value.int .i64 x3, Value.int .i64 x4, Value.slice a5 n5 c5, Value.int .i64 x6, Value.int .i64 x7, Value.int .i64 x8, Value.int .i64 x9, Value.int .i64 x10, Value.slice a11 n11 c11] 72)).alloc (Obj.cells #[Value.int .i64 x0, Value.slice a1' n1 c1', Value.int .i64 x2, Value.int .i64 x3, Value.int .i64 x4, Value.slice a5' n5 c5', Value.int .i64 x6, Value.int .i64 x7, Value.int .i64 x8, Value.int .i64 x9, Value.int .i64 x10, Value.slice a11' n11 c11'] 72)).cell? ⟨w.heap.size + 1, 2, none⟩ = some (.int .i64 x2) := by simp [go_sem]
  have s3 : ((w.alloc (Obj.cells #[Value.int .i64 x0, Value.slice a1 n1 c1, Value.int .i64 x2, Value.int .i64 x3, Value.int .i64 x4, Value.slice a5 n5 c5, Value.int .i64 x6, Value.int .i64 x7, Value.int .i64 x8, Value.int .i64 x9, Value.int .i64 x10, Value.slice a11 n11 c11] 72)).alloc (Obj.cells #[Value.int .i64 x0, Value.slice a1' n1 c1', Value.int .i64 x2, Value.int .i64 x3, Value.int .i64 x4, Value.slice a5' n5 c5', Value.int .i64 x6, Value.int .i64 x7, Value.int .i64 x8, Value.int .i64 x9, Value.int .i64 x10, Value.slice a11' n11 c11'] 72)).cell? ⟨w.heap.size + 1, 3, none⟩ = some (.int .i64 x3) := by simp [go_sem]
  have s4 : ((w.alloc (Obj.cells #[Value.int .i64 x0, Value.slice a1 n1 c1, Value.int .i64 x2, Value.int .i64 x3, Value.int .i64 x4, Value.slice a5 n5 c5, Value.int .i64 x6, Value.int .i64 x7, Value.int .i64 x8, Value.int .i64 x9, Value.int .i64 x10, Value.slice a11 n11 c11] 72)).alloc (Obj.cells #[Value.int .i64 x0, Value.slice a1' n1 c1', Value.int .i64 x2, Value.int .i64 x3, Value.int .i64 x4, Value.slice a5' n5 c5', Value.int .i64 x6, Value.int .i64 x7, Value.int .i64 x8, Value.int .i64 x9, Value.int .i64 x10, Value.slice a11' n11 c11'] 72)).cell? ⟨w.heap.size + 1, 4, none⟩ = some (.int .i64 x4) := by simp [go_sem]
  have s5 : ((w.alloc (Obj.cells #[Value.int .i64 x0, Value.slice a1 n1 c1, Value.int .i64 x2, Value.int .i64 x3, Value.int .i64 x4, Value.slice a5 n5 c5, Value.int .i64 x6, Value.int .i64 x7, Value.int .i64 x8, Value.int .i64 x9, Value.int .i64 x10, Value.slice a11 n11 c11] 72)).alloc (Obj.cells #[Value.int .i64 x0, Value.slice a1' n1 c1', Value.int .i64 x2, Value.int .i64 x3, Value.int .i64 x4, Value.slice a5' n5 c5', Value.int .i64 x6, Value.int .i64 x7, Value.int .i64 x8, Value.int .i64 x9, Value.int .i64 x10, Value.slice a11' n11 c11'] 72)).cell? ⟨w.heap.size + 1, 5, none⟩ = some (.slice a5' n5 c5') := by simp [go_sem]
  have s6 : ((w.alloc (Obj.cells #[Value.int .i64 x0, Value.slice a1 n1 c1, Value.int .i64 x2, Value.int .i64 x3, Value.int .i64 x4, Value.slice a5 n5 c5, Value.int .i64 x6, Value.int .i64 x7, Value.int .i64 x8, Value.int .i64 x9, Value.int .i64 x10, Value.slice a11 n11 c11] 72)).alloc (Obj.cells #[Value.int .i64 x0, Value.slice a1' n1 c1', Value.int .i64 x2, Value.int .i64 x3, Value.int .i64 x4, Value.slice a5' n5 c5', Value.int .i64 x6, Value.int .i64 x7, Value.int .i64 x8, Value.int .i64 x9, Value.int .i64 x10, Value.slice a11' n11 c11'] 72)).cell? ⟨w.heap.size + 1, 6, none⟩ = some (.int .i64 x6) := by simp [go_sem]
  have s7 : ((w.alloc (Obj.cells #[Value.int .i64 x0, Value.slice a1 n1 c1, Value.int .i64 x2, Value.int .i64 x3, Value.int .i64 x4, Value.slice a5 n5 c5, Value.int .i64 x6, Value.int .i64 x7, Value.int .i64 x8, Value.int .i64 x9, Value.int .i64 x10, Value.slice a11 n11 c11] 72)).alloc (Obj.cells #[Value.int .i64 x0, Value.slice a1' n1 c1', Value.int .i64 x2, Value.int .i64 x3, Value.int .i64 x4, Value.slice a5' n5 c5', Value.int .i64 x6, Value.int .i64 x7, Value.int .i64 x8, Value.int .i64 x9, Value.int .i64 x10, Value.slice a11' n11 c11'] 72)).cell? ⟨w.heap.size + 1, 7, none⟩ = some (.int .i64 x7) := by simp [go_sem]
  have s8 : ((w.alloc (Obj.cells #[Value.int .i64 x0, Value.slice a1 n1 c1, Value.int .i64 x2, Value.int .i64 x3, Value.int .i64 x4, Value.slice a5 n5 c5, Value.int .i64 x6, Value.int .i64 x7, Value.int .i64 x8, Value.int .i64 x9, Value.int .i64 x10, Value.slice a11 n11 c11] 72)).alloc (Obj.cells #[Value.int .i64 x0, Value.slice a1' n1 c1', Value.int .i64 x2, Value.int .i64 x3, Value.int .i64 x4, Value.slice a5' n5 c5', Value.int .i64 x6, Value.int .i64 x7, Value.int .i64 x8, Value.int .i64 x9, Value.int .i64 x10, Value.slice a11' n11 c11'] 72)).cell? ⟨w.heap.size + 1, 8, none⟩ = some (.int .i64 x8) := by simp [go_sem]
  have s9 : ((w.alloc (Obj.cells #[Value.int .i64 x0, Value.slice a1 n1 c1, Value.int .i64 x2, Value.int .i64 x3, Value.int .i64 x4, Value.slice a5 n5 c5, Value.int .i64 x6, Value.int .i64 x7, Value.int .i64 x8, Value.int .i64 x9, Value.int .i64 x10, Value.slice a11 n11 c11] 72)).alloc (Obj.cells #[Value.int .i64 x0, Value.slice a1' n1 c1', Value.int .i64 x2, Value.int .i64 x3, Value.int .i64 x4, Value.slice a5' n5 c5', Value.int .i64 x6, Value.int .i64 x7, Value.int .i64 x8, Value.int .i64 x9, Value.int .i64 x10, Value.slice a11' n11 c11'] 72)).cell? ⟨w.heap.size + 1, 9, none⟩ = some (.int .i64 x9) := by simp [go_sem]
  have s10 : ((w.alloc (Obj.cells #[Value.int .i64 x0, Value.slice a1 n1 c1, Value.int .i64 x2, Value.int .i64 x3, Value.int .i64 x4, Value.slice a5 n5 c5, Value.int .i64 x6, Value.int .i64 x7, Value.int .i64 x8, Value.int .i64 x9, Value.int .i64 x10, Value.slice a11 n11 c11] 72)).alloc (Obj.cells #[Value.int .i64 x0, Value.slice a1' n1 c1', Value.int .i64 x2, Value.int .i64 x3, Value.int .i64 x4, Value.slice a5' n5 c5', Value.int .i64 x6, Value.int .i64 x7, Value.int .i64 x8, Value.int .i64 x9, Value.int .i64 x10, Value.slice a11' n11 c11'] 72)).cell? ⟨w.heap.size + 1, 10, none⟩ = some (.int .i64 x10) := by simp [go_sem]
  have s11 : ((w.alloc (Obj.cells #[Value.int .i64 x0, Value.slice a1 n1 c1, Value.int .i64 x2, Value.int .i64 x3, Value.int .i64 x4, Value.slice a5 n5 c5, Value.int .i64 x6, Value.int .i64 x7, Value.int .i64 x8, Value.int .i64 x9, Value.int .i64 x10, Value.slice a11 n11 c11] 72)).alloc (Obj.cells #[Value.int .i64 x0, Value.slice a1' n1 c1', Value.int .i64 x2, Value.int .i64 x3, Value.int .i64 x4, Value.slice a5' n5 c5', Value.int .i64 x6, Value.int .i64 x7, Value.int .i64 x8, Value.int .i64 x9, Value.int .i64 x10, Value.slice a11' n11 c11'] 72)).cell? ⟨w.heap.size + 1, 11, none⟩ = some (.slice a11' n11 c11') := by simp [go_sem]
  go_enter Tryd.func21, Tryd.ntmps21
  go_wp2_with fail
  generalize ((w.alloc (Obj.cells #[Value.int .i64 x0, Value.slice a1 n1 c1, Value.int .i64 x2, Value.int .i64 x3, Value.int .i64 x4, Value.slice a5 n5 c5, Value.int .i64 x6, Value.int .i64 x7, Value.int .i64 x8, Value.int .i64 x9, Value.int .i64 x10, Value.slice a11 n11 c11] 72)).alloc (Obj.cells #[Value.int .i64 x0, Value.slice a1' n1 c1', Value.int .i64 x2, Value.int .i64 x3, Value.int .i64 x4, Value.slice a5' n5 c5', Value.int .i64 x6, Value.int .i64 x7, Value.int .i64 x8, Value.int .i64 x9, Value.int .i64 x10, Value.slice a11' n11 c11'] 72)) = u0 at *
  refine (eqStepS a1 a1' n1 c1 c1' B B' z1 _ (h1.mk M hB (.inr (Nat.le_refl _))) (h1'.mk M hB' (.inr (Nat.le_refl _))) (Nat.le_trans hB M.size) (Nat.le_trans hB' M.size) (by omega)).mono ?_
  rintro e w1 ⟨rfl, m1⟩
  replace k2 := m1.cellAt k2
  replace k3 := m1.cellAt k3
  replace k4 := m1.cellAt k4
  replace k5 := m1.cellAt k5
  replace k6 := m1.cellAt k6
  replace k7 := m1.cellAt k7
  replace k8 := m1.cellAt k8
  replace k9 := m1.cellAt k9
  replace k10 := m1.cellAt k10
  replace k11 := m1.cellAt k11
  replace s2 := m1.cellAt s2
  replace s3 := m1.cellAt s3
  replace s4 := m1.cellAt s4
  replace s5 := m1.cellAt s5
  replace s6 := m1.cellAt s6
  replace s7 := m1.cellAt s7
  replace s8 := m1.cellAt s8
  replace s9 := m1.cellAt s9
  replace s10 := m1.cellAt s10
  replace s11 := m1.cellAt s11
  clear k1 s1
  replace M := M.trans m1
  go_wp2_with fail
  refine (eqPacketC x2 x3 x4 x6 x7 x8 x9 x10 a5 a5' n5 c5 c5' z5 a11 a11' n11 c11 c11' z11 B B' _ (h5.mk M hB (.inr (Nat.le_refl _))) (h11.mk M hB (.inr (Nat.le_refl _))) (h5'.mk M hB' (.inr (Nat.le_refl _))) (h11'.mk M hB' (.inr (Nat.le_refl _))) (Nat.le_trans hB M.size) (Nat.le_trans hB' M.size) (by omega) (by omega)).mono ?_
  rintro e w2 ⟨rfl, m2⟩
  clear k2 s2
  clear k3 s3
  clear k4 s4
  clear k5 s5
  clear k6 s6
  clear k7 s7
  clear k8 s8
  clear k9 s9
  clear k10 s10
  clear k11 s11
  replace M := M.trans m2
  go_wp2_with fail
  go_ret
  exact ⟨rfl, M⟩

set_option maxRecDepth 100000 in
set_option maxHeartbeats 4000000 in
theorem szTraceC (x0 : Int) (x2 : Int) (x3 : Int) (x4 : Int) (x6 : Int) (x7 : Int) (x8 : Int) (x9 : Int) (x10 : Int) (a1 : Option Addr) (n1 c1 : Nat) (a5 : Option Addr) (n5 c5 : Nat) (a11 : Option Addr) (n11 c11 : Nat) (z5 : List TPathPart) (B : Nat) (l : Int) (w : World) (h5 : HasPathPart w B a5 n5 z5) (hB : B ≤ w.heap.size) (hq0 : 0 ≤ l) (hq1 : l ≤ 1048576) (hn : (n1 : Int) + (((szPathPart z5 n5 : Nat)) : Int) + (n11 : Int) ≤ l) :
    Calls Tryd.prog 17 #[.agg #[.int .i64 x0, .slice a1 n1 c1, .int .i64 x2, .int .i64 x3, .int .i64 x4, .slice a5 n5 c5, .int .i64 x6, .int .i64 x7, .int .i64 x8, .int .i64 x9, .int .i64 x10, .slice a11 n11 c11], .int .i64 l] w fun e w' => ∃ l' : Int, l' = ((l - (n1 : Int)) - (((szPathPart z5 n5 : Nat)) : Int)) - (n11 : Int) ∧ e = .returned (.int .i64 l') ∧ Mk0 w w' := by
  have M := Mk.alloc w (Obj.cells #[Value.int .i64 x0, Value.slice a1 n1 c1, Value.int .i64 x2, Value.int .i64 x3, Value.int .i64 x4, Value.slice a5 n5 c5, Value.int .i64 x6, Value.int .i64 x7, Value.int .i64 x8, Value.int .i64 x9, Value.int .i64 x10, Value.slice a11 n11 c11] 62)
  have k1 : (w.alloc (Obj.cells #[Value.int .i64 x0, Value.slice a1 n1 c1, Value.int .i64 x2, Value.int .i64 x3, Value.int .i64 x4, Value.slice a5 n5 c5, Value.int .i64 x6, Value.int .i64 x7, Value.int .i64 x8, Value.int .i64 x9, Value.int .i64 x10, Value.slice a11 n11 c11] 62)).cell? ⟨w.heap.size, 1, none⟩ = some (.slice a1 n1 c1) := by simp [go_sem]
  have k2 : (w.alloc (Obj.cells #[Value.int .i64 x0, Value.slice a1 n1 c1, Value.int .i64 x2, Value.int .i64 x3, Value.int .i64 x4, Value.slice a5 n5 c5, Value.int .i64 x6, Value.int .i64 x7, Value.int .i64 x8, Value.int .i64 x9, Value.int .i64 x10, Value.slice a11 n11 c11] 62)).cell? ⟨w.heap.size, 2, none⟩ = some (.int .i64 x2) := by simp [go_sem]
  have k3 : (w.alloc (Obj.cells #[Value.int .i64 x0, Value.slice a1 n1 c1, Value.int .i64 x2, Value.int .i64 x3, Value.int .i64 x4, Value.slice a5 n5 c5, Value.int .i64 x6, Value.int .i64 x7, Value.int .i64 x8, Value.int .i64 x9, Value.int .i64 x10, Value.slice a11 n11 c11] 62)).cell? ⟨w.heap.size, 3, none⟩ = some (.int .i64 x3) := by simp [go_sem]
  have k4 : (w.alloc (Obj.cells #[Value.int .i64 x0, Value.slice a1 n1 c1, Value.int .i64 x2, Value.int .i64 x3, Value.int .i64 x4, Value.slice a5 n5 c5, Value.int .i64 x6, Value.int .i64 x7, Value.int .i64 x8, Value.int .i64 x9, Value.int .i64 x10, Value.slice a11 n11 c11] 62)).cell? ⟨w.heap.size, 4, none⟩ = some (.int .i64 x4) := by simp [go_sem]
  have k5 : (w.alloc (Obj.cells #[Value.int .i64 x0, Value.slice a1 n1 c1, Value.int .i64 x2, Value.int .i64 x3, Value.int .i64 x4, Value.slice a5 n5 c5, Value.int .i64 x6, Value.int .i64 x7, Value.int .i64 x8, Value.int .i64 x9, Value.int .i64 x10, Value.slice a11 n11 c11] 62)).cell? ⟨w.heap.size, 5, none⟩ = some (.slice a5 n5 c5) := by simp [go_sem]
  have k6 : (w.alloc (Obj.cells #[Value.int .i64 x0, Value.slice a1 n1 c1, Value.int .i64 x2, Value.int .i64 x3, Value.int .i64 x4, Value.slice a5 n5 c5, Value.int .i64 x6, Value.int .i64 x7, Value.int .i64 x8, Value.int .i64 x9, Value.int .i64 x10, Value.slice a11 n11 c11] 62)).cell? ⟨w.heap.size, 6, none⟩ = some (.int .i64 x6) := by simp [go_sem]
  have k7 : (w.alloc (Obj.cells #[Value.int .i64 x0, Value.slice a1 n1 c1, Value.int .i64 x2, Value.int .i64 x3, Value.int .i64 x4, Value.slice a5 n5 c5, Value.int .i64 x6, Value.int .i64 x7, Value.int .i64 x8, Value.int .i64 x9, Value.int .i64 x10, Value.slice a11 n11 c11] 62)).cell? ⟨w.heap.size, 7, none⟩ = some (.int .i64 x7) := by simp [go_sem]
  have k8 : (w.alloc (Obj.cells #[Value.int .i64 x0, Value.slice a1 n1 c1, Value.int .i64 x2, Value.int .i64 x3, Value.int .i64 x4, Value.slice a5 n5 c5, Value.int .i64 x6, Value.int .i64 x7, Value.int .i64 x8, Value.int .i64 x9, Value.int .i64 x10, Value.slice a11 n11 c11] 62)).cell? ⟨w.heap.size, 8, none⟩ = some (.int .i64 x8) := by simp [go_sem]
  have k9 : (w.alloc (Obj.cells #[Value.int .i64 x0, Value.slice a1 n1 c1, Value.int .i64 x2, Value.int .i64 x3, Value.int .i64 x4, Value.slice a5 n5 c5, Value.int .i64 x6, Value.int .i64 x7, Value.int .i64 x8, Value.int .i64 x9, Value.int .i64 x10, Value.slice a11 n11 c11] 62)).cell? ⟨w.heap.size, 9, none⟩ = some (.int .i64 x9) := by simp [go_sem]
  have k10 : (w.alloc (Obj.cells #[Value.int .i64 x0, Value.slice a1 n1 c1, Value.int .i64 x2, Value.int .i64 x3, Value.int .i64 x4, Value.slice a5 n5 c5, Value.int .i64 x6, Value.int .i64 x7, Value.int .i64 x8, Value.int .i64 x9, Value.int .i64 x10, Value.slice a11 n11 c11] 62)).cell? ⟨w.heap.size, 10, none⟩ = some (.int .i64 x10) := by simp [go_sem]
  have k11 : (w.alloc (Obj.cells #[Value.int .i64 x0, Value.slice a1 n1 c1, Value.int .i64 x2, Value.int .i64 x3, Value.int .i64 x4, Value.slice a5 n5 c5, Value.int .i64 x6, Value.int .i64 x7, Value.int .i64 x8, Value.int .i64 x9, Value.int .i64 x10, Value.slice a11 n11 c11] 62)).cell? ⟨w.heap.size, 11, none⟩ = some (.slice a11 n11 c11) := by simp [go_sem]
  go_enter Tryd.func17, Tryd.ntmps17
  go_wp2_with fail
  generalize w.alloc (Obj.cells #[Value.int .i64 x0, Value.slice a1 n1 c1, Value.int .i64 x2, Value.int .i64 x3, Value.int .i64 x4, Value.slice a5 n5 c5, Value.int .i64 x6, Value.int .i64 x7, Value.int .i64 x8, Value.int .i64 x9, Value.int .i64 x10, Value.slice a11 n11 c11] 62) = u0 at *
  refine (szStepSC a1 n1 c1 _ _ (by omega) (by omega) (by omega)).mono ?_
  rintro e w1 ⟨rfl, rfl⟩
  go_wp2_with fail
  refine (szPacketC x2 x3 x4 x6 x7 x8 x9 x10 a5 n5 c5 a11 n11 c11 z5 B _ _ (h5.mk M hB (.inr (Nat.le_refl _))) (Nat.le_trans hB M.size) (by omega) (by omega) (by omega)).mono ?_
  rintro e w2 ⟨l2, hl2, rfl, m2⟩
  replace M := M.trans m2
  go_wp2_with fail
  go_ret
  exact ⟨_, by omega, rfl, M⟩

set_option maxRecDepth 100000 in
set_option maxHeartbeats 4000000 in
theorem szTraceB (x0 : Int) (x2 : Int) (x3 : Int) (x4 : Int) (x6 : Int) (x7 : Int) (x8 : Int) (x9 : Int) (x10 : Int) (a1 : Option Addr) (n1 c1 : Nat) (a5 : Option Addr) (n5 c5 : Nat) (a11 : Option Addr) (n11 c11 : Nat) (z5 : List TPathPart) (B : Nat) (l : Int) (w : World) (h5 : HasPathPart w B a5 n5 z5) (hB : B ≤ w.heap.size) (hq0 : 0 ≤ l) (hq1 : l ≤ 1048576) (hn : l < (n1 : Int) + (((szPathPart z5 n5 : Nat)) : Int) + (n11 : Int)) (hm1 : n1 ≤ 9223372036854775807) (hm5 : n5 ≤ 9223372036854775807) (hm11 : n11 ≤ 9223372036854775807) :
    Calls Tryd.prog 17 #[.agg #[.int .i64 x0, .slice a1 n1 c1, .int .i64 x2, .int .i64 x3, .int .i64 x4, .slice a5 n5 c5, .int .i64 x6, .int .i64 x7, .int .i64 x8, .int .i64 x9, .int .i64 x10, .slice a11 n11 c11], .int .i64 l] w fun e w' => e = .returned (.int .i64 (-1)) ∧ Mk0 w w' := by
  by_cases hp0 : l < (n1 : Int)
  · have M := Mk.alloc w (Obj.cells #[Value.int .i64 x0, Value.slice a1 n1 c1, Value.int .i64 x2, Value.int .i64 x3, Value.int .i64 x4, Value.slice a5 n5 c5, Value.int .i64 x6, Value.int .i64 x7, Value.int .i64 x8, Value.int .i64 x9, Value.int .i64 x10, Value.slice a11 n11 c11] 62)
    have k1 : (w.alloc (Obj.cells #[Value.int .i64 x0, Value.slice a1 n1 c1, Value.int .i64 x2, Value.int .i64 x3, Value.int .i64 x4, Value.slice a5 n5 c5, Value.int .i64 x6, Value.int .i64 x7, Value.int .i64 x8, Value.int .i64 x9, Value.int .i64 x10, Value.slice a11 n11 c11] 62)).cell? ⟨w.heap.size, 1, none⟩ = some (.slice a1 n1 c1) := by simp [go_sem]
    have k2 : (w.alloc (Obj.cells #[Value.int .i64 x0, Value.slice a1 n1 c1, Value.int .i64 x2, Value.int .i64 x3, Value.int .i64 x4, Value.slice a5 n5 c5, Value.int .i64 x6, Value.int .i64 x7, Value.int .i64 x8, Value.int .i64 x9, Value.int .i64 x10, Value.slice a11 n11 c11] 62)).cell? ⟨w.heap.size, 2, none⟩ = some (.int .i64 x2) := by simp [go_sem]
    have k3 : (w.alloc (Obj.cells #[Value.int .i64 x0, Value.slice a1 n1 c1, Value.int .i64 x2, Value.int .i64 x3, Value.int .i64 x4, Value.slice a5 n5 c5, Value.int .i64 x6, Value.int .i64 x7, Value.int .i64 x8, Value.int .i64 x9, Value.int .i64 x10, Value.slice a11 n11 c11] 62)).cell? ⟨w.heap.size, 3, none⟩ = some (.int .i64 x3) := by simp [go_sem]
    have k4 : (w.alloc (Obj.cells #[Value.int .i64 x0, Value.slice a1 n1 c1, Value.int .i64 x2, Value.int .i64 x3, Value.int .i64 x4, Value.slice a5 n5 c5, Value.int .i64 x6, Value.int .i64 x7, Value.int .i64 x8, Value.int .i64 x9, Value.int .i64 x10, Value.slice a11 n11 c11] 62)).cell? ⟨w.heap.size, 4, none⟩ = some (.int .i64 x4) := by simp [go_sem]
    have k5 : (w.alloc (Obj.cells #[Value.int .i64 x0, Value.slice a1 n1 c1, Value.int .i64 x2, Value.int .i64 x3, Value.int .i64 x4, Value.slice a5 n5 c5, Value.int .i64 x6, Value.int .i64 x7, Value.int .i64 x8, Value.int .i64 x9, Value.int .i64 x10, Value.slice a11 n11 c11] 62)).cell? ⟨w.heap.size, 5, none⟩ = some (.slice a5 n5 c5) := by simp [go_sem]
    have k6 : (w.alloc (Obj.cells #[Value.int .i64 x0, Value.slice a1 n1 c1, Value.int .i64 x2, Value.int .i64 x3, Value.int .i64 x4, Value.slice a5 n5 c5, Value.int .i64 x6, Value.int .i64 x7, Value.int .i64 x8, Value.int .i64 x9, Value.int .i64 x10, Value.slice a11 n11 c11] 62)).cell? ⟨w.heap.size, 6, none⟩ = some (.int .i64 x6) := by simp [go_sem]
    have k7 : (w.alloc (Obj.cells #[Value.int .i64 x0, Value.slice a1 n1 c1, Value.int .i64 x2, Value.int .i64 x3, Value.int .i64 x4, Value.slice a5 n5 c5, Value.int .i64 x6, Value.int .i64 x7, Value.int .i64 x8, Value.int .i64 x9, Value.int .i64 x10, Value.slice a11 n11 c11] 62)).cell? ⟨w.heap.size, 7, none⟩ = some (.int .i64 x7) := by simp [go_sem]
    have k8 : (w.alloc (Obj.cells #[Value.int .i64 x0, Value.slice a1 n1 c1, Value.int .i64 x2, Value.int .i64 x3, Value.int .i64 x4, Value.slice a5 n5 c5, Value.int .i64 x6, Value.int .i64 x7, Value.int .i64 x8, Value.int .i64 x9, Value.int .i64 x10, Value.slice a11 n11 c11] 62)).cell? ⟨w.heap.size, 8, none⟩ = some (.int .i64 x8) := by simp [go_sem]
    have k9 : (w.alloc (Obj.cells #[Value.int .i64 x0, Value.slice a1 n1 c1, Value.int .i64 x2, Value.int .i64 x3, Value.int .i64 x4, Value.slice a5 n5 c5, Value.int .i64 x6, Value.int .i64 x7, Value.int .i64 x8, Value.int .i64 x9, Value.int .i64 x10, Value.slice a11 n11 c11] 62)).cell? ⟨w.heap.size, 9, none⟩ = some (.int .i64 x9) := by simp [go_sem]
    have k10 : (w.alloc (Obj.cells #[Value.int .i64 x0, Value.slice a1 n1 c1, Value.int .i64 x2, Value.int .i64 x3, Value.int .i64 x4, Value.slice a5 n5 c5, Value.int .i64 x6, Value.int .i64 x7, Value.int .i64 x8, Value.int .i64 x9, Value.int .i64 x10, Value.slice a11 n11 c11] 62)).cell? ⟨w.heap.size, 10, none⟩ = some (.int .i64 x10) := by simp [go_sem]
    have k11 : (w.alloc (Obj.cells #[Value.int .i64 x0, Value.slice a1 n1 c1, Value.int .i64 x2, Value.int .i64 x3, Value.int .i64 x4, Value.slice a5 n5 c5, Value.int .i64 x6, Value.int .i64 x7, Value.int .i64 x8, Value.int .i64 x9, Value.int .i64 x10, Value.slice a11 n11 c11] 62)).cell? ⟨w.heap.size, 11, none⟩ = some (.slice a11 n11 c11) := by simp [go_sem]
    go_enter Tryd.func17, Tryd.ntmps17
    go_wp2_with fail
    generalize w.alloc (Obj.cells #[Value.int .i64 x0, Value.slice a1 n1 c1, Value.int .i64 x2, Value.int .i64 x3, Value.int .i64 x4, Value.slice a5 n5 c5, Value.int .i64 x6, Value.int .i64 x7, Value.int .i64 x8, Value.int .i64 x9, Value.int .i64 x10, Value.slice a11 n11 c11] 62) = u0 at *
    refine (szStepSB a1 n1 c1 _ _ (by omega) (by omega) (by omega) hm1).mono ?_
    rintro e w1 ⟨rfl, rfl⟩
    go_wp2_with fail
    go_ret
    exact ⟨rfl, M⟩
  have M := Mk.alloc w (Obj.cells #[Value.int .i64 x0, Value.slice a1 n1 c1, Value.int .i64 x2, Value.int .i64 x3, Value.int .i64 x4, Value.slice a5 n5 c5, Value.int .i64 x6, Value.int .i64 x7, Value.int .i64 x8, Value.int .i64 x9, Value.int .i64 x10, Value.slice a11 n11 c11] 62)
  have k1 : (w.alloc (Obj.cells #[Value.int .i64 x0, Value.slice a1 n1 c1, Value.int .i64 x2, Value.int .i64 x3, Value.int .i64 x4, Value.slice a5 n5 c5, Value.int .i64 x6, Value.int .i64 x7, Value.int .i64 x8, Value.int .i64 x9, Value.int .i64 x10, Value.slice a11 n11 c11] 62)).cell? ⟨w.heap.size, 1, none⟩ = some (.slice a1 n1 c1) := by simp [go_sem]
  have k2 : (w.alloc (Obj.cells #[Value.int .i64 x0, Value.slice a1 n1 c1, Value.int .i64 x2, Value.int .i64 x3, Value.int .i64 x4, Value.slice a5 n5 c5, Value.int .i64 x6, Value.int .i64 x7, Value.int .i64 x8, Value.int .i64 x9, Value.int .i64 x10, Value.slice a11 n11 c11] 62)).cell? ⟨w.heap.size, 2, none⟩ = some (.int .i64 x2) := by simp [go_sem]
  have k3 : (w.alloc (Obj.cells #[Value.int .i64 x0, Value.slice a1 n1 c1, Value.int .i64 x2, Value.int .i64 x3, Value.int .i64 x4, Value.slice a5 n5 c5, Value.int .i64 x6, Value.int .i64 x7, Value.int .i64 x8, Value.int .i64 x9, Value.int .i64 x10, Value.slice a11 n11 c11] 62)).cell? ⟨w.heap.size, 3, none⟩ = some (.int .i64 x3) := by simp [go_sem]
  have k4 : (w.alloc (Obj.cells #[Value.int .i64 x0, Value.slice a1 n1 c1, Value.int .i64 x2, Value.int .i64 x3, Value.int .i64 x4, Value.slice a5 n5 c5, Value.int .i64 x6, Value.int .i64 x7, Value.int .i64 x8, Value.int .i64 x9, Value.int .i64 x10, Value.slice a11 n11 c11] 62)).cell? ⟨w.heap.size, 4, none⟩ = some (.int .i64 x4) := by simp [go_sem]
  have k5 : (w.alloc (Obj.cells #[Value.int .i64 x0, Value.slice a1 n1 c1, Value.int .i64 x2, Value.int .i64 x3, Value.int .i64 x4, Value.slice a5 n5 c5, Value.int .i64 x6, Value.int .i64 x7, Value.int .i64 x8, Value.int .i64 x9, Value.int .i64 x10, Value.slice a11 n11 c11] 62)).cell? ⟨w.heap.size, 5, none⟩ = some (.slice a5 n5 c5) := by simp [go_sem]
  have k6 : (w.alloc (Obj.cells #[Value.int .i64 x0, Value.slice a1 n1 c1, Value.int .i64 x2, Value.int .i64 x3, Value.int .i64 x4, Value.slice a5 n5 c5, Value.int .i64 x6, Value.int .i64 x7, Value.int .i64 x8, Value.int .i64 x9, Value.int .i64 x10, Value.slice a11 n11 c11] 62)).cell? ⟨w.heap.size, 6, none⟩ = some (.int .i64 x6) := by simp [go_sem]
  have k7 : (w.alloc (Obj.cells #[Value.int .i64 x0, Value.slice a1 n1 c1, Value.int .i64 x2, Value.int .i64 x3, Value.int .i64 x4, Value.slice a5 n5 c5, Value.int .i64 x6, Value.int .i64 x7, Value.int .i64 x8, Value.int .i64 x9, Value.int .i64 x10, Value.slice a11 n11 c11] 62)).cell? ⟨w.heap.size, 7, none⟩ = some (.int .i64 x7) := by simp [go_sem]
  have k8 : (w.alloc (Obj.cells #[Value.int .i64 x0, Value.slice a1 n1 c1, Value.int .i64 x2, Value.int .i64 x3, Value.int .i64 x4, Value.slice a5 n5 c5, Value.int .i64 x6, Value.int .i64 x7, Value.int .i64 x8, Value.int .i64 x9, Value.int .i64 x10, Value.slice a11 n11 c11] 62)).cell? ⟨w.heap.size, 8, none⟩ = some (.int .i64 x8) := by simp [go_sem]
  have k9 : (w.alloc (Obj.cells #[Value.int .i64 x0, Value.slice a1 n1 c1, Value.int .i64 x2, Value.int .i64 x3, Value.int .i64 x4, Value.slice a5 n5 c5, Value.int .i64 x6, Value.int .i64 x7, Value.int .i64 x8, Value.int .i64 x9, Value.int .i64 x10, Value.slice a11 n11 c11] 62)).cell? ⟨w.heap.size, 9, none⟩ = some (.int .i64 x9) := by simp [go_sem]
  have k10 : (w.alloc (Obj.cells #[Value.int .i64 x0, Value.slice a1 n1 c1, Value.int .i64 x2, Value.int .i64 x3, Value.int .i64 x4, Value.slice a5 n5 c5, Value.int .i64 x6, Value.int .i64 x7, Value.int .i64 x8, Value.int .i64 x9, Value.int .i64 x10, Value.slice a11 n11 c11] 62)).cell? ⟨w.heap.size, 10, none⟩ = some (.int .i64 x10) := by simp [go_sem]
  have k11 : (w.alloc (Obj.cells #[Value.int .i64 x0, Value.slice a1 n1 c1, Value.int .i64 x2, Value.int .i64 x3, Value.int .i64 x4, Value.slice a5 n5 c5, Value.int .i64 x6, Value.int .i64 x7, Value.int .i64 x8, Value.int .i64 x9, Value.int .i64 x10, Value.slice a11 n11 c11] 62)).cell? ⟨w.heap.size, 11, none⟩ = some (.slice a11 n11 c11) := by simp [go_sem]
  go_enter Tryd.func17, Tryd.ntmps17
  go_wp2_with fail
  generalize w.alloc (Obj.cells #[Value.int .i64 x0, Value.slice a1 n1 c1, Value.int .i64 x2, Value.int .i64 x3, Value.int .i64 x4, Value.slice a5 n5 c5, Value.int .i64 x6, Value.int .i64 x7, Value.int .i64 x8, Value.int .i64 x9, Value.int .i64 x10, Value.slice a11 n11 c11] 62) = u0 at *
  refine (szStepSC a1 n1 c1 _ _ (by omega) (by omega) (by omega)).mono ?_
  rintro e w1 ⟨rfl, rfl⟩
  go_wp2_with fail
  refine (szPacketB x2 x3 x4 x6 x7 x8 x9 x10 a5 n5 c5 a11 n11 c11 z5 B _ _ (h5.mk M hB (.inr (Nat.le_refl _))) (Nat.le_trans hB M.size) (by omega) (by omega) (by omega) hm5 hm11).mono ?_
  rintro e w2 ⟨rfl, m2⟩
  replace M := M.trans m2
  go_wp2_with fail
  go_ret
  exact ⟨rfl, M⟩

end Go.Proofs.YtgchhkgcdcknlaaDoor
