
/- Inbox: a new one, its equality, marks: all slices nil. -/
import Derived.Test.YtdbaecgbhadkbaaRows
import Derived.Test.YtdbaecgbhadkbaaRow
import Derived.Test.YtdbaecgbhadkbaaInfo
import Derived.Handy
import Derived.OwnWalk
import Derived.Deep.QuietTactic
import Derived.BigQuiet
import Derived.Deep.RegionWith
import Derived.RegionTactic
import Derived.Test.YtdbaecgbhadkbaaRet
namespace Go.Proofs.Ytdbaecgbhadkbaa
open Go.ChangeShapes Go.WideShapes Go.ChangeAt Go.RowKit
set_option linter.unusedVariables false
set_option maxRecDepth 100000 in
set_option maxHeartbeats 800000 in
theorem eqNilMessage (w : World) : Calls Try.prog 112 #[.slice none 0 0, .slice none 0 0] w fun en w' => en = .returned (.bool true) ∧ Mk0 w w' := by
  go_enter Try.func112, Try.ntmps112
  go_wp2
  go_loopw [4, 5] (fun r i wr => r = .bool false ∧ i = .int .i64 0 ∧ Mk0 w wr) (fun _ _ _ => 0)
  case atStart => exact ⟨rfl, rfl, Mk.refl _ _ _⟩
  case round =>
    obtain ⟨rfl, rfl, m1⟩ := hrel
    go_wp2
    go_ret
    exact ⟨rfl, m1⟩

set_option maxRecDepth 100000 in
set_option maxHeartbeats 800000 in
theorem markNilMessage (w : World) : Calls Try.prog 114 #[.slice none 0 0, .int .i64 1] w fun en w' => en = .returned (.int .i64 1) ∧ Mk0 w w' := by
  go_enter Try.func114, Try.ntmps114
  go_wp2
  go_loopw [1, 5] (fun r i wr => r = .int .i64 1 ∧ i = .int .i64 0 ∧ Mk0 w wr) (fun _ _ _ => 0)
  case atStart => exact ⟨rfl, rfl, Mk.refl _ _ _⟩
  case round =>
    obtain ⟨rfl, rfl, m1⟩ := hrel
    go_wp2
    go_ret
    exact ⟨rfl, m1⟩

set_option maxRecDepth 100000 in
set_option maxHeartbeats 800000 in
theorem heldNilMessage (w : World) : Calls Try.prog 116 #[.slice none 0 0, .int .i64 1] w fun en w' => en = .returned (.int .i64 1) ∧ Mk0 w w' := by
  go_enter Try.func116, Try.ntmps116
  go_wp2
  go_loopw [1, 4, 5] (fun q r i wr => q = .int .i64 1 ∧ r = .int .i64 0 ∧ i = .int .i64 0 ∧ Mk0 w wr) (fun _ _ _ _ => 0)
  case atStart => exact ⟨rfl, rfl, rfl, Mk.refl _ _ _⟩
  case round =>
    obtain ⟨rfl, rfl, rfl, m1⟩ := hrel
    go_wp2
    go_ret
    exact ⟨rfl, m1⟩

set_option maxRecDepth 100000 in
set_option maxHeartbeats 1600000 in
theorem specNewInbox (a s : Int) (w : World) : Calls Try.prog 68 #[.int .i64 a, .int .i64 s] w fun en w' => en = .returned (.agg #[.int .i64 a, .int .i64 s, .int .i64 0, .slice none 0 0]) ∧ Mk0 w w' := by
  go_enter Try.func68, Try.ntmps68
  go_wp2
  refine bodyPost_ret (v := .agg #[.int .i64 a, .int .i64 s, .int .i64 0, .slice none 0 0]) (by simp [results, Try.results68, go_sem]) rfl ⟨rfl, Mk.of_below ?_⟩
  go_grown

set_option maxRecDepth 100000 in
set_option maxHeartbeats 1600000 in
theorem implNewInbox (a s : Int) (w : World) : Calls Try.prog 69 #[.int .i64 a, .int .i64 s] w fun en w' => en = .returned (.agg #[.int .i64 a, .int .i64 s, .int .i64 0, .slice none 0 0]) ∧ Mk0 w w' := by
  go_enter Try.func69, Try.ntmps69
  go_wp2
  refine bodyPost_ret (v := .agg #[.int .i64 a, .int .i64 s, .int .i64 0, .slice none 0 0]) (by simp [results, Try.results69, go_sem]) rfl ⟨rfl, Mk.of_below ?_⟩
  go_grown

set_option maxRecDepth 100000 in
set_option maxHeartbeats 1600000 in
theorem eqNewInbox (a s : Int) (w : World) : Calls Try.prog 70 #[.agg #[.int .i64 a, .int .i64 s, .int .i64 0, .slice none 0 0], .agg #[.int .i64 a, .int .i64 s, .int .i64 0, .slice none 0 0]] w fun en w' => en = .returned (.bool true) ∧ Mk0 w w' := by
  have k0_0 : ((w.alloc (Obj.cells #[Value.int .i64 a, Value.int .i64 s, Value.int .i64 0, Value.slice none 0 0] 94)).alloc (Obj.cells #[Value.int .i64 a, Value.int .i64 s, Value.int .i64 0, Value.slice none 0 0] 94)).cell? ⟨w.heap.size, 0, none⟩ = some (.int .i64 a) := by simp [go_sem]
  have k0_1 : ((w.alloc (Obj.cells #[Value.int .i64 a, Value.int .i64 s, Value.int .i64 0, Value.slice none 0 0] 94)).alloc (Obj.cells #[Value.int .i64 a, Value.int .i64 s, Value.int .i64 0, Value.slice none 0 0] 94)).cell? ⟨w.heap.size, 1, none⟩ = some (.int .i64 s) := by simp [go_sem]
  have k0_2 : ((w.alloc (Obj.cells #[Value.int .i64 a, Value.int .i64 s, Value.int .i64 0, Value.slice none 0 0] 94)).alloc (Obj.cells #[Value.int .i64 a, Value.int .i64 s, Value.int .i64 0, Value.slice none 0 0] 94)).cell? ⟨w.heap.size, 2, none⟩ = some (.int .i64 0) := by simp [go_sem]
  have k0_3 : ((w.alloc (Obj.cells #[Value.int .i64 a, Value.int .i64 s, Value.int .i64 0, Value.slice none 0 0] 94)).alloc (Obj.cells #[Value.int .i64 a, Value.int .i64 s, Value.int .i64 0, Value.slice none 0 0] 94)).cell? ⟨w.heap.size, 3, none⟩ = some (.slice none 0 0) := by simp [go_sem]
  have k1_0 : ((w.alloc (Obj.cells #[Value.int .i64 a, Value.int .i64 s, Value.int .i64 0, Value.slice none 0 0] 94)).alloc (Obj.cells #[Value.int .i64 a, Value.int .i64 s, Value.int .i64 0, Value.slice none 0 0] 94)).cell? ⟨w.heap.size + 1, 0, none⟩ = some (.int .i64 a) := by simp [go_sem]
  have k1_1 : ((w.alloc (Obj.cells #[Value.int .i64 a, Value.int .i64 s, Value.int .i64 0, Value.slice none 0 0] 94)).alloc (Obj.cells #[Value.int .i64 a, Value.int .i64 s, Value.int .i64 0, Value.slice none 0 0] 94)).cell? ⟨w.heap.size + 1, 1, none⟩ = some (.int .i64 s) := by simp [go_sem]
  have k1_2 : ((w.alloc (Obj.cells #[Value.int .i64 a, Value.int .i64 s, Value.int .i64 0, Value.slice none 0 0] 94)).alloc (Obj.cells #[Value.int .i64 a, Value.int .i64 s, Value.int .i64 0, Value.slice none 0 0] 94)).cell? ⟨w.heap.size + 1, 2, none⟩ = some (.int .i64 0) := by simp [go_sem]
  have k1_3 : ((w.alloc (Obj.cells #[Value.int .i64 a, Value.int .i64 s, Value.int .i64 0, Value.slice none 0 0] 94)).alloc (Obj.cells #[Value.int .i64 a, Value.int .i64 s, Value.int .i64 0, Value.slice none 0 0] 94)).cell? ⟨w.heap.size + 1, 3, none⟩ = some (.slice none 0 0) := by simp [go_sem]
  have M0 : Mk0 w ((w.alloc (Obj.cells #[Value.int .i64 a, Value.int .i64 s, Value.int .i64 0, Value.slice none 0 0] 94)).alloc (Obj.cells #[Value.int .i64 a, Value.int .i64 s, Value.int .i64 0, Value.slice none 0 0] 94)) := (Mk.alloc w _).trans (Mk.alloc _ _)
  go_enter Try.func70, Try.ntmps70
  go_wp2_with fail
  refine (eqNilMessage _).mono ?_
  rintro e w1 ⟨rfl, m1⟩
  have M1 := M0.trans m1
  replace k0_0 := m1.cellAt k0_0
  replace k0_1 := m1.cellAt k0_1
  replace k0_2 := m1.cellAt k0_2
  replace k0_3 := m1.cellAt k0_3
  replace k1_0 := m1.cellAt k1_0
  replace k1_1 := m1.cellAt k1_1
  replace k1_2 := m1.cellAt k1_2
  replace k1_3 := m1.cellAt k1_3
  go_wp2_with fail
  go_ret
  exact ⟨rfl, M1⟩

set_option maxRecDepth 100000 in
set_option maxHeartbeats 1600000 in
theorem markNewInbox (a s : Int) (w : World) : Calls Try.prog 71 #[.agg #[.int .i64 a, .int .i64 s, .int .i64 0, .slice none 0 0], .int .i64 1] w fun en w' => en = .returned (.int .i64 1) ∧ Mk0 w w' := by
  have k0_0 : (w.alloc (Obj.cells #[Value.int .i64 a, Value.int .i64 s, Value.int .i64 0, Value.slice none 0 0] 94)).cell? ⟨w.heap.size, 0, none⟩ = some (.int .i64 a) := by simp [go_sem]
  have k0_1 : (w.alloc (Obj.cells #[Value.int .i64 a, Value.int .i64 s, Value.int .i64 0, Value.slice none 0 0] 94)).cell? ⟨w.heap.size, 1, none⟩ = some (.int .i64 s) := by simp [go_sem]
  have k0_2 : (w.alloc (Obj.cells #[Value.int .i64 a, Value.int .i64 s, Value.int .i64 0, Value.slice none 0 0] 94)).cell? ⟨w.heap.size, 2, none⟩ = some (.int .i64 0) := by simp [go_sem]
  have k0_3 : (w.alloc (Obj.cells #[Value.int .i64 a, Value.int .i64 s, Value.int .i64 0, Value.slice none 0 0] 94)).cell? ⟨w.heap.size, 3, none⟩ = some (.slice none 0 0) := by simp [go_sem]
  have M0 : Mk0 w (w.alloc (Obj.cells #[Value.int .i64 a, Value.int .i64 s, Value.int .i64 0, Value.slice none 0 0] 94)) := (Mk.alloc w _)
  go_enter Try.func71, Try.ntmps71
  go_wp2_with fail
  refine (markNilMessage _).mono ?_
  rintro e w1 ⟨rfl, m1⟩
  have M1 := M0.trans m1
  replace k0_0 := m1.cellAt k0_0
  replace k0_1 := m1.cellAt k0_1
  replace k0_2 := m1.cellAt k0_2
  replace k0_3 := m1.cellAt k0_3
  go_wp2_with fail
  go_ret
  exact ⟨rfl, M1⟩

set_option maxRecDepth 100000 in
set_option maxHeartbeats 1600000 in
theorem heldNewInbox (a s : Int) (w : World) : Calls Try.prog 72 #[.agg #[.int .i64 a, .int .i64 s, .int .i64 0, .slice none 0 0], .int .i64 1] w fun en w' => en = .returned (.int .i64 1) ∧ Mk0 w w' := by
  have k0_0 : (w.alloc (Obj.cells #[Value.int .i64 a, Value.int .i64 s, Value.int .i64 0, Value.slice none 0 0] 94)).cell? ⟨w.heap.size, 0, none⟩ = some (.int .i64 a) := by simp [go_sem]
  have k0_1 : (w.alloc (Obj.cells #[Value.int .i64 a, Value.int .i64 s, Value.int .i64 0, Value.slice none 0 0] 94)).cell? ⟨w.heap.size, 1, none⟩ = some (.int .i64 s) := by simp [go_sem]
  have k0_2 : (w.alloc (Obj.cells #[Value.int .i64 a, Value.int .i64 s, Value.int .i64 0, Value.slice none 0 0] 94)).cell? ⟨w.heap.size, 2, none⟩ = some (.int .i64 0) := by simp [go_sem]
  have k0_3 : (w.alloc (Obj.cells #[Value.int .i64 a, Value.int .i64 s, Value.int .i64 0, Value.slice none 0 0] 94)).cell? ⟨w.heap.size, 3, none⟩ = some (.slice none 0 0) := by simp [go_sem]
  have M0 : Mk0 w (w.alloc (Obj.cells #[Value.int .i64 a, Value.int .i64 s, Value.int .i64 0, Value.slice none 0 0] 94)) := (Mk.alloc w _)
  go_enter Try.func72, Try.ntmps72
  go_wp2_with fail
  refine (heldNilMessage _).mono ?_
  rintro e w1 ⟨rfl, m1⟩
  have M1 := M0.trans m1
  replace k0_0 := m1.cellAt k0_0
  replace k0_1 := m1.cellAt k0_1
  replace k0_2 := m1.cellAt k0_2
  replace k0_3 := m1.cellAt k0_3
  go_wp2_with fail
  go_ret
  exact ⟨rfl, M1⟩

end Go.Proofs.Ytdbaecgbhadkbaa
