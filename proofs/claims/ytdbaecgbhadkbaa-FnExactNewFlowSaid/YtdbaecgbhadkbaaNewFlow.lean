
/- Flow: a new one, its equality, marks: all slices nil. -/
import Derived.Test.YtdbaecgbhadkbaaRows
import Derived.Test.YtdbaecgbhadkbaaRow
import Derived.Test.YtdbaecgbhadkbaaInfo
import Derived.Handy
import Derived.OwnWalk
import Derived.Deep.QuietTactic
import Derived.BigQuiet
import Derived.Deep.RegionWith
import Derived.RegionTactic
import Derived.Test.YtdbaecgbhadkbaaRet
namespace Go.Proofs.Ytdbaecgbhadkbaa
open Go.ChangeShapes Go.WideShapes Go.ChangeAt Go.RowKit
set_option linter.unusedVariables false
set_option maxRecDepth 100000 in
set_option maxHeartbeats 800000 in
theorem eqNilMessage (w : World) : Calls Try.prog 112 #[.slice none 0 0, .slice none 0 0] w fun en w' => en = .returned (.bool true) ∧ Mk0 w w' := by
  go_enter Try.func112, Try.ntmps112
  go_wp2
  go_loopw [4, 5] (fun r i wr => r = .bool false ∧ i = .int .i64 0 ∧ Mk0 w wr) (fun _ _ _ => 0)
  case atStart => exact ⟨rfl, rfl, Mk.refl _ _ _⟩
  case round =>
    obtain ⟨rfl, rfl, m1⟩ := hrel
    go_wp2
    go_ret
    exact ⟨rfl, m1⟩

set_option maxRecDepth 100000 in
set_option maxHeartbeats 800000 in
theorem markNilMessage (w : World) : Calls Try.prog 114 #[.slice none 0 0, .int .i64 1] w fun en w' => en = .returned (.int .i64 1) ∧ Mk0 w w' := by
  go_enter Try.func114, Try.ntmps114
  go_wp2
  go_loopw [1, 5] (fun r i wr => r = .int .i64 1 ∧ i = .int .i64 0 ∧ Mk0 w wr) (fun _ _ _ => 0)
  case atStart => exact ⟨rfl, rfl, Mk.refl _ _ _⟩
  case round =>
    obtain ⟨rfl, rfl, m1⟩ := hrel
    go_wp2
    go_ret
    exact ⟨rfl, m1⟩

set_option maxRecDepth 100000 in
set_option maxHeartbeats 800000 in
theorem heldNilMessage (w : World) : Calls Try.prog 116 #[.slice none 0 0, .int .i64 1] w fun en w' => en = .returned (.int .i64 1) ∧ Mk0 w w' := by
  go_enter Try.func116, Try.ntmps116
  go_wp2
  go_loopw [1, 4, 5] (fun q r i wr => q = .int .i64 1 ∧ r = .int .i64 0 ∧ i = .int .i64 0 ∧ Mk0 w wr) (fun _ _ _ _ => 0)
  case atStart => exact ⟨rfl, rfl, rfl, Mk.refl _ _ _⟩
  case round =>
    obtain ⟨rfl, rfl, rfl, m1⟩ := hrel
    go_wp2
    go_ret
    exact ⟨rfl, m1⟩

set_option maxRecDepth 100000 in
set_option maxHeartbeats 800000 in
theorem eqNilPath (w : World) : Calls Try.prog 113 #[.slice none 0 0, .slice none 0 0] w fun en w' => en = .returned (.bool true) ∧ Mk0 w w' := by
  go_enter Try.func113, Try.ntmps113
  go_wp2
  go_loopw [4, 5] (fun r i wr => r = .bool false ∧ i = .int .i64 0 ∧ Mk0 w wr) (fun _ _ _ => 0)
  case atStart => exact ⟨rfl, rfl, Mk.refl _ _ _⟩
  case round =>
    obtain ⟨rfl, rfl, m1⟩ := hrel
    go_wp2
    go_ret
    exact ⟨rfl, m1⟩

set_option maxRecDepth 100000 in
set_option maxHeartbeats 800000 in
theorem markNilPath (w : World) : Calls Try.prog 115 #[.slice none 0 0, .int .i64 1] w fun en w' => en = .returned (.int .i64 1) ∧ Mk0 w w' := by
  go_enter Try.func115, Try.ntmps115
  go_wp2
  go_loopw [1, 5] (fun r i wr => r = .int .i64 1 ∧ i = .int .i64 0 ∧ Mk0 w wr) (fun _ _ _ => 0)
  case atStart => exact ⟨rfl, rfl, Mk.refl _ _ _⟩
  case round =>
    obtain ⟨rfl, rfl, m1⟩ := hrel
    go_wp2
    go_ret
    exact ⟨rfl, m1⟩

set_option maxRecDepth 100000 in
set_option maxHeartbeats 800000 in
theorem heldNilPath (w : World) : Calls Try.prog 117 #[.slice none 0 0, .int .i64 1] w fun en w' => en = .returned (.int .i64 1) ∧ Mk0 w w' := by
  go_enter Try.func117, Try.ntmps117
  go_wp2
  go_loopw [1, 4, 5] (fun q r i wr => q = .int .i64 1 ∧ r = .int .i64 0 ∧ i = .int .i64 0 ∧ Mk0 w wr) (fun _ _ _ _ => 0)
  case atStart => exact ⟨rfl, rfl, rfl, Mk.refl _ _ _⟩
  case round =>
    obtain ⟨rfl, rfl, rfl, m1⟩ := hrel
    go_wp2
    go_ret
    exact ⟨rfl, m1⟩

set_option maxRecDepth 100000 in
set_option maxHeartbeats 800000 in
theorem eqNilRevocation (w : World) : Calls Try.prog 27 #[.slice none 0 0, .slice none 0 0] w fun en w' => en = .returned (.bool true) ∧ Mk0 w w' := by
  go_enter Try.func27, Try.ntmps27
  go_wp2
  go_loopw [4, 5] (fun r i wr => r = .bool false ∧ i = .int .i64 0 ∧ Mk0 w wr) (fun _ _ _ => 0)
  case atStart => exact ⟨rfl, rfl, Mk.refl _ _ _⟩
  case round =>
    obtain ⟨rfl, rfl, m1⟩ := hrel
    go_wp2
    go_ret
    exact ⟨rfl, m1⟩

set_option maxRecDepth 100000 in
set_option maxHeartbeats 800000 in
theorem markNilRevocation (w : World) : Calls Try.prog 28 #[.slice none 0 0, .int .i64 1] w fun en w' => en = .returned (.int .i64 1) ∧ Mk0 w w' := by
  go_enter Try.func28, Try.ntmps28
  go_wp2
  go_loopw [1, 5] (fun r i wr => r = .int .i64 1 ∧ i = .int .i64 0 ∧ Mk0 w wr) (fun _ _ _ => 0)
  case atStart => exact ⟨rfl, rfl, Mk.refl _ _ _⟩
  case round =>
    obtain ⟨rfl, rfl, m1⟩ := hrel
    go_wp2
    go_ret
    exact ⟨rfl, m1⟩

set_option maxRecDepth 100000 in
set_option maxHeartbeats 800000 in
theorem heldNilRevocation (w : World) : Calls Try.prog 29 #[.slice none 0 0, .int .i64 1] w fun en w' => en = .returned (.int .i64 1) ∧ Mk0 w w' := by
  go_enter Try.func29, Try.ntmps29
  go_wp2
  go_loopw [1, 4, 5] (fun q r i wr => q = .int .i64 1 ∧ r = .int .i64 0 ∧ i = .int .i64 0 ∧ Mk0 w wr) (fun _ _ _ _ => 0)
  case atStart => exact ⟨rfl, rfl, rfl, Mk.refl _ _ _⟩
  case round =>
    obtain ⟨rfl, rfl, rfl, m1⟩ := hrel
    go_wp2
    go_ret
    exact ⟨rfl, m1⟩

set_option maxRecDepth 100000 in
set_option maxHeartbeats 1600000 in
theorem specNewFlow (a s r : Int) (w : World) : Calls Try.prog 63 #[.int .i64 a, .int .i64 s, .int .i64 r] w fun en w' => en = .returned (.agg #[.int .i64 a, .int .i64 s, .int .i64 r, .int .i64 0, .slice none 0 0, .slice none 0 0, .int .i64 0, .int .i64 0, .slice none 0 0]) ∧ Mk0 w w' := by
  go_enter Try.func63, Try.ntmps63
  go_wp2
  refine bodyPost_ret (v := .agg #[.int .i64 a, .int .i64 s, .int .i64 r, .int .i64 0, .slice none 0 0, .slice none 0 0, .int .i64 0, .int .i64 0, .slice none 0 0]) (by simp [results, Try.results63, go_sem]) rfl ⟨rfl, Mk.of_below ?_⟩
  go_grown

set_option maxRecDepth 100000 in
set_option maxHeartbeats 1600000 in
theorem implNewFlow (a s r : Int) (w : World) : Calls Try.prog 64 #[.int .i64 a, .int .i64 s, .int .i64 r] w fun en w' => en = .returned (.agg #[.int .i64 a, .int .i64 s, .int .i64 r, .int .i64 0, .slice none 0 0, .slice none 0 0, .int .i64 0, .int .i64 0, .slice none 0 0]) ∧ Mk0 w w' := by
  go_enter Try.func64, Try.ntmps64
  go_wp2
  refine bodyPost_ret (v := .agg #[.int .i64 a, .int .i64 s, .int .i64 r, .int .i64 0, .slice none 0 0, .slice none 0 0, .int .i64 0, .int .i64 0, .slice none 0 0]) (by simp [results, Try.results64, go_sem]) rfl ⟨rfl, Mk.of_below ?_⟩
  go_grown

set_option maxRecDepth 100000 in
set_option maxHeartbeats 1600000 in
theorem eqNewFlow (a s r : Int) (w : World) : Calls Try.prog 65 #[.agg #[.int .i64 a, .int .i64 s, .int .i64 r, .int .i64 0, .slice none 0 0, .slice none 0 0, .int .i64 0, .int .i64 0, .slice none 0 0], .agg #[.int .i64 a, .int .i64 s, .int .i64 r, .int .i64 0, .slice none 0 0, .slice none 0 0, .int .i64 0, .int .i64 0, .slice none 0 0]] w fun en w' => en = .returned (.bool true) ∧ Mk0 w w' := by
  have k0_0 : ((w.alloc (Obj.cells #[Value.int .i64 a, Value.int .i64 s, Value.int .i64 r, Value.int .i64 0, Value.slice none 0 0, Value.slice none 0 0, Value.int .i64 0, Value.int .i64 0, Value.slice none 0 0] 88)).alloc (Obj.cells #[Value.int .i64 a, Value.int .i64 s, Value.int .i64 r, Value.int .i64 0, Value.slice none 0 0, Value.slice none 0 0, Value.int .i64 0, Value.int .i64 0, Value.slice none 0 0] 88)).cell? ⟨w.heap.size, 0, none⟩ = some (.int .i64 a) := by simp [go_sem]
  have k0_1 : ((w.alloc (Obj.cells #[Value.int .i64 a, Value.int .i64 s, Value.int .i64 r, Value.int .i64 0, Value.slice none 0 0, Value.slice none 0 0, Value.int .i64 0, Value.int .i64 0, Value.slice none 0 0] 88)).alloc (Obj.cells #[Value.int .i64 a, Value.int .i64 s, Value.int .i64 r, Value.int .i64 0, Value.slice none 0 0, Value.slice none 0 0, Value.int .i64 0, Value.int .i64 0, Value.slice none 0 0] 88)).cell? ⟨w.heap.size, 1, none⟩ = some (.int .i64 s) := by simp [go_sem]
  have k0_2 : ((w.alloc (Obj.cells #[Value.int .i64 a, Value.int .i64 s, Value.int .i64 r, Value.int .i64 0, Value.slice none 0 0, Value.slice none 0 0, Value.int .i64 0, Value.int .i64 0, Value.slice none 0 0] 88)).alloc (Obj.cells #[Value.int .i64 a, Value.int .i64 s, Value.int .i64 r, Value.int .i64 0, Value.slice none 0 0, Value.slice none 0 0, Value.int .i64 0, Value.int .i64 0, Value.slice none 0 0] 88)).cell? ⟨w.heap.size, 2, none⟩ = some (.int .i64 r) := by simp [go_sem]
  have k0_3 : ((w.alloc (Obj.cells #[Value.int .i64 a, Value.int .i64 s, Value.int .i64 r, Value.int .i64 0, Value.slice none 0 0, Value.slice none 0 0, Value.int .i64 0, Value.int .i64 0, Value.slice none 0 0] 88)).alloc (Obj.cells #[Value.int .i64 a, Value.int .i64 s, Value.int .i64 r, Value.int .i64 0, Value.slice none 0 0, Value.slice none 0 0, Value.int .i64 0, Value.int .i64 0, Value.slice none 0 0] 88)).cell? ⟨w.heap.size, 3, none⟩ = some (.int .i64 0) := by simp [go_sem]
  have k0_4 : ((w.alloc (Obj.cells #[Value.int .i64 a, Value.int .i64 s, Value.int .i64 r, Value.int .i64 0, Value.slice none 0 0, Value.slice none 0 0, Value.int .i64 0, Value.int .i64 0, Value.slice none 0 0] 88)).alloc (Obj.cells #[Value.int .i64 a, Value.int .i64 s, Value.int .i64 r, Value.int .i64 0, Value.slice none 0 0, Value.slice none 0 0, Value.int .i64 0, Value.int .i64 0, Value.slice none 0 0] 88)).cell? ⟨w.heap.size, 4, none⟩ = some (.slice none 0 0) := by simp [go_sem]
  have k0_5 : ((w.alloc (Obj.cells #[Value.int .i64 a, Value.int .i64 s, Value.int .i64 r, Value.int .i64 0, Value.slice none 0 0, Value.slice none 0 0, Value.int .i64 0, Value.int .i64 0, Value.slice none 0 0] 88)).alloc (Obj.cells #[Value.int .i64 a, Value.int .i64 s, Value.int .i64 r, Value.int .i64 0, Value.slice none 0 0, Value.slice none 0 0, Value.int .i64 0, Value.int .i64 0, Value.slice none 0 0] 88)).cell? ⟨w.heap.size, 5, none⟩ = some (.slice none 0 0) := by simp [go_sem]
  have k0_6 : ((w.alloc (Obj.cells #[Value.int .i64 a, Value.int .i64 s, Value.int .i64 r, Value.int .i64 0, Value.slice none 0 0, Value.slice none 0 0, Value.int .i64 0, Value.int .i64 0, Value.slice none 0 0] 88)).alloc (Obj.cells #[Value.int .i64 a, Value.int .i64 s, Value.int .i64 r, Value.int .i64 0, Value.slice none 0 0, Value.slice none 0 0, Value.int .i64 0, Value.int .i64 0, Value.slice none 0 0] 88)).cell? ⟨w.heap.size, 6, none⟩ = some (.int .i64 0) := by simp [go_sem]
  have k0_7 : ((w.alloc (Obj.cells #[Value.int .i64 a, Value.int .i64 s, Value.int .i64 r, Value.int .i64 0, Value.slice none 0 0, Value.slice none 0 0, Value.int .i64 0, Value.int .i64 0, Value.slice none 0 0] 88)).alloc (Obj.cells #[Value.int .i64 a, Value.int .i64 s, Value.int .i64 r, Value.int .i64 0, Value.slice none 0 0, Value.slice none 0 0, Value.int .i64 0, Value.int .i64 0, Value.slice none 0 0] 88)).cell? ⟨w.heap.size, 7, none⟩ = some (.int .i64 0) := by simp [go_sem]
  have k0_8 : ((w.alloc (Obj.cells #[Value.int .i64 a, Value.int .i64 s, Value.int .i64 r, Value.int .i64 0, Value.slice none 0 0, Value.slice none 0 0, Value.int .i64 0, Value.int .i64 0, Value.slice none 0 0] 88)).alloc (Obj.cells #[Value.int .i64 a, Value.int .i64 s, Value.int .i64 r, Value.int .i64 0, Value.slice none 0 0, Value.slice none 0 0, Value.int .i64 0, Value.int .i64 0, Value.slice none 0 0] 88)).cell? ⟨w.heap.size, 8, none⟩ = some (.slice none 0 0) := by simp [go_sem]
  have k1_0 : ((w.alloc (Obj.cells #[Value.int .i64 a, Value.int .i64 s, Value.int .i64 r, Value.int .i64 0, Value.slice none 0 0, Value.slice none 0 0, Value.int .i64 0, Value.int .i64 0, Value.slice none 0 0] 88)).alloc (Obj.cells #[Value.int .i64 a, Value.int .i64 s, Value.int .i64 r, Value.int .i64 0, Value.slice none 0 0, Value.slice none 0 0, Value.int .i64 0, Value.int .i64 0, Value.slice none 0 0] 88)).cell? ⟨w.heap.size + 1, 0, none⟩ = some (.int .i64 a) := by simp [go_sem]
  have k1_1 : ((w.alloc (Obj.cells #[Value.int .i64 a, Value.int .i64 s, Value.int .i64 r, Value.int .i64 0, Value.slice none 0 0, Value.slice none 0 0, Value.int .i64 0, Value.int .i64 0, Value.slice none 0 0] 88)).alloc (Obj.cells #[Value.int .i64 a, Value.int .i64 s, Value.int .i64 r, Value.int .i64 0, Value.slice none 0 0, Value.slice none 0 0, Value.int .i64 0, Value.int .i64 0, Value.slice none 0 0] 88)).cell? ⟨w.heap.size + 1, 1, none⟩ = some (.int .i64 s) := by simp [go_sem]
  have k1_2 : ((w.alloc (Obj.cells #[Value.int .i64 a, Value.int .i64 s, Value.int .i64 r, Value.int .i64 0, Value.slice none 0 0, Value.slice none 0 0, Value.int .i64 0, Value.int .i64 0, Value.slice none 0 0] 88)).alloc (Obj.cells #[Value.int .i64 a, Value.int .i64 s, Value.int .i64 r, Value.int .i64 0, Value.slice none 0 0, Value.slice none 0 0, Value.int .i64 0, Value.int .i64 0, Value.slice none 0 0] 88)).cell? ⟨w.heap.size + 1, 2, none⟩ = some (.int .i64 r) := by simp [go_sem]
  have k1_3 : ((w.alloc (Obj.cells #[Value.int .i64 a, Value.int .i64 s, Value.int .i64 r, Value.int .i64 0, Value.slice none 0 0, Value.slice none 0 0, Value.int .i64 0, Value.int .i64 0, Value.slice none 0 0] 88)).alloc (Obj.cells #[Value.int .i64 a, Value.int .i64 s, Value.int .i64 r, Value.int .i64 0, Value.slice none 0 0, Value.slice none 0 0, Value.int .i64 0, Value.int .i64 0, Value.slice none 0 0] 88)).cell? ⟨w.heap.size + 1, 3, none⟩ = some (.int .i64 0) := by simp [go_sem]
  have k1_4 : ((w.alloc (Obj.cells #[Value.int .i64 a, Value.int .i64 s, Value.int .i64 r, Value.int .i64 0, Value.slice none 0 0, Value.slice none 0 0, Value.int .i64 0, Value.int .i64 0, Value.slice none 0 0] 88)).alloc (Obj.cells #[Value.int .i64 a, Value.int .i64 s, Value.int .i64 r, Value.int .i64 0, Value.slice none 0 0, Value.slice none 0 0, Value.int .i64 0, Value.int .i64 0, Value.slice none 0 0] 88)).cell? ⟨w.heap.size + 1, 4, none⟩ = some (.slice none 0 0) := by simp [go_sem]
  have k1_5 : ((w.alloc (Obj.cells #[Value.int .i64 a, Value.int .i64 s, Value.int .i64 r, Value.int .i64 0, Value.slice none 0 0, Value.slice none 0 0, Value.int .i64 0, Value.int .i64 0, Value.slice none 0 0] 88)).alloc (Obj.cells #[Value.int .i64 a, Value.int .i64 s, Value.int .i64 r, Value.int .i64 0, Value.slice none 0 0, Value.slice none 0 0, Value.int .i64 0, Value.int .i64 0, Value.slice none 0 0] 88)).cell? ⟨w.heap.size + 1, 5, none⟩ = some (.slice none 0 0) := by simp [go_sem]
  have k1_6 : ((w.alloc (Obj.cells #[Value.int .i64 a, Value.int .i64 s, Value.int .i64 r, Value.int .i64 0, Value.slice none 0 0, Value.slice none 0 0, Value.int .i64 0, Value.int .i64 0, Value.slice none 0 0] 88)).alloc (Obj.cells #[Value.int .i64 a, Value.int .i64 s, Value.int .i64 r, Value.int .i64 0, Value.slice none 0 0, Value.slice none 0 0, Value.int .i64 0, Value.int .i64 0, Value.slice none 0 0] 88)).cell? ⟨w.heap.size + 1, 6, none⟩ = some (.int .i64 0) := by simp [go_sem]
  have k1_7 : ((w.alloc (Obj.cells #[Value.int .i64 a, Value.int .i64 s, Value.int .i64 r, Value.int .i64 0, Value.slice none 0 0, Value.slice none 0 0, Value.int .i64 0, Value.int .i64 0, Value.slice none 0 0] 88)).alloc (Obj.cells #[Value.int .i64 a, Value.int .i64 s, Value.int .i64 r, Value.int .i64 0, Value.slice none 0 0, Value.slice none 0 0, Value.int .i64 0, Value.int .i64 0, Value.slice none 0 0] 88)).cell? ⟨w.heap.size + 1, 7, none⟩ = some (.int .i64 0) := by simp [go_sem]
  have k1_8 : ((w.alloc (Obj.cells #[Value.int .i64 a, Value.int .i64 s, Value.int .i64 r, Value.int .i64 0, Value.slice none 0 0, Value.slice none 0 0, Value.int .i64 0, Value.int .i64 0, Value.slice none 0 0] 88)).alloc (Obj.cells #[Value.int .i64 a, Value.int .i64 s, Value.int .i64 r, Value.int .i64 0, Value.slice none 0 0, Value.slice none 0 0, Value.int .i64 0, Value.int .i64 0, Value.slice none 0 0] 88)).cell? ⟨w.heap.size + 1, 8, none⟩ = some (.slice none 0 0) := by simp [go_sem]
  have M0 : Mk0 w ((w.alloc (Obj.cells #[Value.int .i64 a, Value.int .i64 s, Value.int .i64 r, Value.int .i64 0, Value.slice none 0 0, Value.slice none 0 0, Value.int .i64 0, Value.int .i64 0, Value.slice none 0 0] 88)).alloc (Obj.cells #[Value.int .i64 a, Value.int .i64 s, Value.int .i64 r, Value.int .i64 0, Value.slice none 0 0, Value.slice none 0 0, Value.int .i64 0, Value.int .i64 0, Value.slice none 0 0] 88)) := (Mk.alloc w _).trans (Mk.alloc _ _)
  go_enter Try.func65, Try.ntmps65
  go_wp2_with fail
  refine (eqNilMessage _).mono ?_
  rintro e w1 ⟨rfl, m1⟩
  have M1 := M0.trans m1
  replace k0_0 := m1.cellAt k0_0
  replace k0_1 := m1.cellAt k0_1
  replace k0_2 := m1.cellAt k0_2
  replace k0_3 := m1.cellAt k0_3
  replace k0_4 := m1.cellAt k0_4
  replace k0_5 := m1.cellAt k0_5
  replace k0_6 := m1.cellAt k0_6
  replace k0_7 := m1.cellAt k0_7
  replace k0_8 := m1.cellAt k0_8
  replace k1_0 := m1.cellAt k1_0
  replace k1_1 := m1.cellAt k1_1
  replace k1_2 := m1.cellAt k1_2
  replace k1_3 := m1.cellAt k1_3
  replace k1_4 := m1.cellAt k1_4
  replace k1_5 := m1.cellAt k1_5
  replace k1_6 := m1.cellAt k1_6
  replace k1_7 := m1.cellAt k1_7
  replace k1_8 := m1.cellAt k1_8
  go_wp2_with fail
  refine (eqNilPath _).mono ?_
  rintro e w2 ⟨rfl, m2⟩
  have M2 := M1.trans m2
  replace k0_0 := m2.cellAt k0_0
  replace k0_1 := m2.cellAt k0_1
  replace k0_2 := m2.cellAt k0_2
  replace k0_3 := m2.cellAt k0_3
  replace k0_4 := m2.cellAt k0_4
  replace k0_5 := m2.cellAt k0_5
  replace k0_6 := m2.cellAt k0_6
  replace k0_7 := m2.cellAt k0_7
  replace k0_8 := m2.cellAt k0_8
  replace k1_0 := m2.cellAt k1_0
  replace k1_1 := m2.cellAt k1_1
  replace k1_2 := m2.cellAt k1_2
  replace k1_3 := m2.cellAt k1_3
  replace k1_4 := m2.cellAt k1_4
  replace k1_5 := m2.cellAt k1_5
  replace k1_6 := m2.cellAt k1_6
  replace k1_7 := m2.cellAt k1_7
  replace k1_8 := m2.cellAt k1_8
  go_wp2_with fail
  refine (eqNilRevocation _).mono ?_
  rintro e w3 ⟨rfl, m3⟩
  have M3 := M2.trans m3
  replace k0_0 := m3.cellAt k0_0
  replace k0_1 := m3.cellAt k0_1
  replace k0_2 := m3.cellAt k0_2
  replace k0_3 := m3.cellAt k0_3
  replace k0_4 := m3.cellAt k0_4
  replace k0_5 := m3.cellAt k0_5
  replace k0_6 := m3.cellAt k0_6
  replace k0_7 := m3.cellAt k0_7
  replace k0_8 := m3.cellAt k0_8
  replace k1_0 := m3.cellAt k1_0
  replace k1_1 := m3.cellAt k1_1
  replace k1_2 := m3.cellAt k1_2
  replace k1_3 := m3.cellAt k1_3
  replace k1_4 := m3.cellAt k1_4
  replace k1_5 := m3.cellAt k1_5
  replace k1_6 := m3.cellAt k1_6
  replace k1_7 := m3.cellAt k1_7
  replace k1_8 := m3.cellAt k1_8
  go_wp2_with fail
  go_ret
  exact ⟨rfl, M3⟩

set_option maxRecDepth 100000 in
set_option maxHeartbeats 1600000 in
theorem markNewFlow (a s r : Int) (w : World) : Calls Try.prog 66 #[.agg #[.int .i64 a, .int .i64 s, .int .i64 r, .int .i64 0, .slice none 0 0, .slice none 0 0, .int .i64 0, .int .i64 0, .slice none 0 0], .int .i64 1] w fun en w' => en = .returned (.int .i64 1) ∧ Mk0 w w' := by
  have k0_0 : (w.alloc (Obj.cells #[Value.int .i64 a, Value.int .i64 s, Value.int .i64 r, Value.int .i64 0, Value.slice none 0 0, Value.slice none 0 0, Value.int .i64 0, Value.int .i64 0, Value.slice none 0 0] 88)).cell? ⟨w.heap.size, 0, none⟩ = some (.int .i64 a) := by simp [go_sem]
  have k0_1 : (w.alloc (Obj.cells #[Value.int .i64 a, Value.int .i64 s, Value.int .i64 r, Value.int .i64 0, Value.slice none 0 0, Value.slice none 0 0, Value.int .i64 0, Value.int .i64 0, Value.slice none 0 0] 88)).cell? ⟨w.heap.size, 1, none⟩ = some (.int .i64 s) := by simp [go_sem]
  have k0_2 : (w.alloc (Obj.cells #[Value.int .i64 a, Value.int .i64 s, Value.int .i64 r, Value.int .i64 0, Value.slice none 0 0, Value.slice none 0 0, Value.int .i64 0, Value.int .i64 0, Value.slice none 0 0] 88)).cell? ⟨w.heap.size, 2, none⟩ = some (.int .i64 r) := by simp [go_sem]
  have k0_3 : (w.alloc (Obj.cells #[Value.int .i64 a, Value.int .i64 s, Value.int .i64 r, Value.int .i64 0, Value.slice none 0 0, Value.slice none 0 0, Value.int .i64 0, Value.int .i64 0, Value.slice none 0 0] 88)).cell? ⟨w.heap.size, 3, none⟩ = some (.int .i64 0) := by simp [go_sem]
  have k0_4 : (w.alloc (Obj.cells #[Value.int .i64 a, Value.int .i64 s, Value.int .i64 r, Value.int .i64 0, Value.slice none 0 0, Value.slice none 0 0, Value.int .i64 0, Value.int .i64 0, Value.slice none 0 0] 88)).cell? ⟨w.heap.size, 4, none⟩ = some (.slice none 0 0) := by simp [go_sem]
  have k0_5 : (w.alloc (Obj.cells #[Value.int .i64 a, Value.int .i64 s, Value.int .i64 r, Value.int .i64 0, Value.slice none 0 0, Value.slice none 0 0, Value.int .i64 0, Value.int .i64 0, Value.slice none 0 0] 88)).cell? ⟨w.heap.size, 5, none⟩ = some (.slice none 0 0) := by simp [go_sem]
  have k0_6 : (w.alloc (Obj.cells #[Value.int .i64 a, Value.int .i64 s, Value.int .i64 r, Value.int .i64 0, Value.slice none 0 0, Value.slice none 0 0, Value.int .i64 0, Value.int .i64 0, Value.slice none 0 0] 88)).cell? ⟨w.heap.size, 6, none⟩ = some (.int .i64 0) := by simp [go_sem]
  have k0_7 : (w.alloc (Obj.cells #[Value.int .i64 a, Value.int .i64 s, Value.int .i64 r, Value.int .i64 0, Value.slice none 0 0, Value.slice none 0 0, Value.int .i64 0, Value.int .i64 0, Value.slice none 0 0] 88)).cell? ⟨w.heap.size, 7, none⟩ = some (.int .i64 0) := by simp [go_sem]
  have k0_8 : (w.alloc (Obj.cells #[Value.int .i64 a, Value.int .i64 s, Value.int .i64 r, Value.int .i64 0, Value.slice none 0 0, Value.slice none 0 0, Value.int .i64 0, Value.int .i64 0, Value.slice none 0 0] 88)).cell? ⟨w.heap.size, 8, none⟩ = some (.slice none 0 0) := by simp [go_sem]
  have M0 : Mk0 w (w.alloc (Obj.cells #[Value.int .i64 a, Value.int .i64 s, Value.int .i64 r, Value.int .i64 0, Value.slice none 0 0, Value.slice none 0 0, Value.int .i64 0, Value.int .i64 0, Value.slice none 0 0] 88)) := (Mk.alloc w _)
  go_enter Try.func66, Try.ntmps66
  go_wp2_with fail
  refine (markNilMessage _).mono ?_
  rintro e w1 ⟨rfl, m1⟩
  have M1 := M0.trans m1
  replace k0_0 := m1.cellAt k0_0
  replace k0_1 := m1.cellAt k0_1
  replace k0_2 := m1.cellAt k0_2
  replace k0_3 := m1.cellAt k0_3
  replace k0_4 := m1.cellAt k0_4
  replace k0_5 := m1.cellAt k0_5
  replace k0_6 := m1.cellAt k0_6
  replace k0_7 := m1.cellAt k0_7
  replace k0_8 := m1.cellAt k0_8
  go_wp2_with fail
  refine (markNilPath _).mono ?_
  rintro e w2 ⟨rfl, m2⟩
  have M2 := M1.trans m2
  replace k0_0 := m2.cellAt k0_0
  replace k0_1 := m2.cellAt k0_1
  replace k0_2 := m2.cellAt k0_2
  replace k0_3 := m2.cellAt k0_3
  replace k0_4 := m2.cellAt k0_4
  replace k0_5 := m2.cellAt k0_5
  replace k0_6 := m2.cellAt k0_6
  replace k0_7 := m2.cellAt k0_7
  replace k0_8 := m2.cellAt k0_8
  go_wp2_with fail
  refine (markNilRevocation _).mono ?_
  rintro e w3 ⟨rfl, m3⟩
  have M3 := M2.trans m3
  replace k0_0 := m3.cellAt k0_0
  replace k0_1 := m3.cellAt k0_1
  replace k0_2 := m3.cellAt k0_2
  replace k0_3 := m3.cellAt k0_3
  replace k0_4 := m3.cellAt k0_4
  replace k0_5 := m3.cellAt k0_5
  replace k0_6 := m3.cellAt k0_6
  replace k0_7 := m3.cellAt k0_7
  replace k0_8 := m3.cellAt k0_8
  go_wp2_with fail
  go_ret
  exact ⟨rfl, M3⟩

set_option maxRecDepth 100000 in
set_option maxHeartbeats 1600000 in
theorem heldNewFlow (a s r : Int) (w : World) : Calls Try.prog 67 #[.agg #[.int .i64 a, .int .i64 s, .int .i64 r, .int .i64 0, .slice none 0 0, .slice none 0 0, .int .i64 0, .int .i64 0, .slice none 0 0], .int .i64 1] w fun en w' => en = .returned (.int .i64 1) ∧ Mk0 w w' := by
  have k0_0 : (w.alloc (Obj.cells #[Value.int .i64 a, Value.int .i64 s, Value.int .i64 r, Value.int .i64 0, Value.slice none 0 0, Value.slice none 0 0, Value.int .i64 0, Value.int .i64 0, Value.slice none 0 0] 88)).cell? ⟨w.heap.size, 0, none⟩ = some (.int .i64 a) := by simp [go_sem]
  have k0_1 : (w.alloc (Obj.cells #[Value.int .i64 a, Value.int .i64 s, Value.int .i64 r, Value.int .i64 0, Value.slice none 0 0, Value.slice none 0 0, Value.int .i64 0, Value.int .i64 0, Value.slice none 0 0] 88)).cell? ⟨w.heap.size, 1, none⟩ = some (.int .i64 s) := by simp [go_sem]
  have k0_2 : (w.alloc (Obj.cells #[Value.int .i64 a, Value.int .i64 s, Value.int .i64 r, Value.int .i64 0, Value.slice none 0 0, Value.slice none 0 0, Value.int .i64 0, Value.int .i64 0, Value.slice none 0 0] 88)).cell? ⟨w.heap.size, 2, none⟩ = some (.int .i64 r) := by simp [go_sem]
  have k0_3 : (w.alloc (Obj.cells #[Value.int .i64 a, Value.int .i64 s, Value.int .i64 r, Value.int .i64 0, Value.slice none 0 0, Value.slice none 0 0, Value.int .i64 0, Value.int .i64 0, Value.slice none 0 0] 88)).cell? ⟨w.heap.size, 3, none⟩ = some (.int .i64 0) := by simp [go_sem]
  have k0_4 : (w.alloc (Obj.cells #[Value.int .i64 a, Value.int .i64 s, Value.int .i64 r, Value.int .i64 0, Value.slice none 0 0, Value.slice none 0 0, Value.int .i64 0, Value.int .i64 0, Value.slice none 0 0] 88)).cell? ⟨w.heap.size, 4, none⟩ = some (.slice none 0 0) := by simp [go_sem]
  have k0_5 : (w.alloc (Obj.cells #[Value.int .i64 a, Value.int .i64 s, Value.int .i64 r, Value.int .i64 0, Value.slice none 0 0, Value.slice none 0 0, Value.int .i64 0, Value.int .i64 0, Value.slice none 0 0] 88)).cell? ⟨w.heap.size, 5, none⟩ = some (.slice none 0 0) := by simp [go_sem]
  have k0_6 : (w.alloc (Obj.cells #[Value.int .i64 a, Value.int .i64 s, Value.int .i64 r, Value.int .i64 0, Value.slice none 0 0, Value.slice none 0 0, Value.int .i64 0, Value.int .i64 0, Value.slice none 0 0] 88)).cell? ⟨w.heap.size, 6, none⟩ = some (.int .i64 0) := by simp [go_sem]
  have k0_7 : (w.alloc (Obj.cells #[Value.int .i64 a, Value.int .i64 s, Value.int .i64 r, Value.int .i64 0, Value.slice none 0 0, Value.slice none 0 0, Value.int .i64 0, Value.int .i64 0, Value.slice none 0 0] 88)).cell? ⟨w.heap.size, 7, none⟩ = some (.int .i64 0) := by simp [go_sem]
  have k0_8 : (w.alloc (Obj.cells #[Value.int .i64 a, Value.int .i64 s, Value.int .i64 r, Value.int .i64 0, Value.slice none 0 0, Value.slice none 0 0, Value.int .i64 0, Value.int .i64 0, Value.slice none 0 0] 88)).cell? ⟨w.heap.size, 8, none⟩ = some (.slice none 0 0) := by simp [go_sem]
  have M0 : Mk0 w (w.alloc (Obj.cells #[Value.int .i64 a, Value.int .i64 s, Value.int .i64 r, Value.int .i64 0, Value.slice none 0 0, Value.slice none 0 0, Value.int .i64 0, Value.int .i64 0, Value.slice none 0 0] 88)) := (Mk.alloc w _)
  go_enter Try.func67, Try.ntmps67
  go_wp2_with fail
  refine (heldNilMessage _).mono ?_
  rintro e w1 ⟨rfl, m1⟩
  have M1 := M0.trans m1
  replace k0_0 := m1.cellAt k0_0
  replace k0_1 := m1.cellAt k0_1
  replace k0_2 := m1.cellAt k0_2
  replace k0_3 := m1.cellAt k0_3
  replace k0_4 := m1.cellAt k0_4
  replace k0_5 := m1.cellAt k0_5
  replace k0_6 := m1.cellAt k0_6
  replace k0_7 := m1.cellAt k0_7
  replace k0_8 := m1.cellAt k0_8
  go_wp2_with fail
  refine (heldNilPath _).mono ?_
  rintro e w2 ⟨rfl, m2⟩
  have M2 := M1.trans m2
  replace k0_0 := m2.cellAt k0_0
  replace k0_1 := m2.cellAt k0_1
  replace k0_2 := m2.cellAt k0_2
  replace k0_3 := m2.cellAt k0_3
  replace k0_4 := m2.cellAt k0_4
  replace k0_5 := m2.cellAt k0_5
  replace k0_6 := m2.cellAt k0_6
  replace k0_7 := m2.cellAt k0_7
  replace k0_8 := m2.cellAt k0_8
  go_wp2_with fail
  refine (heldNilRevocation _).mono ?_
  rintro e w3 ⟨rfl, m3⟩
  have M3 := M2.trans m3
  replace k0_0 := m3.cellAt k0_0
  replace k0_1 := m3.cellAt k0_1
  replace k0_2 := m3.cellAt k0_2
  replace k0_3 := m3.cellAt k0_3
  replace k0_4 := m3.cellAt k0_4
  replace k0_5 := m3.cellAt k0_5
  replace k0_6 := m3.cellAt k0_6
  replace k0_7 := m3.cellAt k0_7
  replace k0_8 := m3.cellAt k0_8
  go_wp2_with fail
  go_ret
  exact ⟨rfl, M3⟩

end Go.Proofs.Ytdbaecgbhadkbaa
