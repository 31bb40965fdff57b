
/- Scheduler: a new one, its equality, marks: all slices nil. -/
import Derived.Test.YtdbaecgbhadkbaaRows
import Derived.Test.YtdbaecgbhadkbaaRow
import Derived.Test.YtdbaecgbhadkbaaInfo
import Derived.Handy
import Derived.OwnWalk
import Derived.Deep.QuietTactic
import Derived.BigQuiet
import Derived.Deep.RegionWith
import Derived.RegionTactic
import Derived.Test.YtdbaecgbhadkbaaRet
import Derived.Test.YtdbaecgbhadkbaaInR
import Derived.Test.YtdbaecgbhadkbaaSReservation
namespace Go.Proofs.Ytdbaecgbhadkbaa
open Go.ChangeShapes Go.WideShapes Go.ChangeAt Go.RowKit
set_option linter.unusedVariables false
set_option maxRecDepth 100000 in
set_option maxHeartbeats 800000 in
theorem eqNilReservation (w : World) : Calls Try.prog 42 #[.slice none 0 0, .slice none 0 0] w fun en w' => en = .returned (.bool true) ∧ Mk0 w w' := by
  go_enter Try.func42, Try.ntmps42
  go_wp2
  go_loopw [4, 5] (fun r i wr => r = .bool false ∧ i = .int .i64 0 ∧ Mk0 w wr) (fun _ _ _ => 0)
  case atStart => exact ⟨rfl, rfl, Mk.refl _ _ _⟩
  case round =>
    obtain ⟨rfl, rfl, m1⟩ := hrel
    go_wp2
    go_ret
    exact ⟨rfl, m1⟩

set_option maxRecDepth 100000 in
set_option maxHeartbeats 800000 in
theorem markNilReservation (w : World) : Calls Try.prog 43 #[.slice none 0 0, .int .i64 1] w fun en w' => en = .returned (.int .i64 1) ∧ Mk0 w w' := by
  go_enter Try.func43, Try.ntmps43
  go_wp2
  go_loopw [1, 5] (fun r i wr => r = .int .i64 1 ∧ i = .int .i64 0 ∧ Mk0 w wr) (fun _ _ _ => 0)
  case atStart => exact ⟨rfl, rfl, Mk.refl _ _ _⟩
  case round =>
    obtain ⟨rfl, rfl, m1⟩ := hrel
    go_wp2
    go_ret
    exact ⟨rfl, m1⟩

set_option maxRecDepth 100000 in
set_option maxHeartbeats 800000 in
theorem heldNilReservation (w : World) : Calls Try.prog 44 #[.slice none 0 0, .int .i64 1] w fun en w' => en = .returned (.int .i64 1) ∧ Mk0 w w' := by
  go_enter Try.func44, Try.ntmps44
  go_wp2
  go_loopw [1, 4, 5] (fun q r i wr => q = .int .i64 1 ∧ r = .int .i64 0 ∧ i = .int .i64 0 ∧ Mk0 w wr) (fun _ _ _ _ => 0)
  case atStart => exact ⟨rfl, rfl, rfl, Mk.refl _ _ _⟩
  case round =>
    obtain ⟨rfl, rfl, rfl, m1⟩ := hrel
    go_wp2
    go_ret
    exact ⟨rfl, m1⟩

set_option maxRecDepth 100000 in
set_option maxHeartbeats 800000 in
theorem eqNilUsage (w : World) : Calls Try.prog 107 #[.slice none 0 0, .slice none 0 0] w fun en w' => en = .returned (.bool true) ∧ Mk0 w w' := by
  go_enter Try.func107, Try.ntmps107
  go_wp2
  go_loopw [4, 5] (fun r i wr => r = .bool false ∧ i = .int .i64 0 ∧ Mk0 w wr) (fun _ _ _ => 0)
  case atStart => exact ⟨rfl, rfl, Mk.refl _ _ _⟩
  case round =>
    obtain ⟨rfl, rfl, m1⟩ := hrel
    go_wp2
    go_ret
    exact ⟨rfl, m1⟩

set_option maxRecDepth 100000 in
set_option maxHeartbeats 800000 in
theorem markNilUsage (w : World) : Calls Try.prog 108 #[.slice none 0 0, .int .i64 1] w fun en w' => en = .returned (.int .i64 1) ∧ Mk0 w w' := by
  go_enter Try.func108, Try.ntmps108
  go_wp2
  go_loopw [1, 5] (fun r i wr => r = .int .i64 1 ∧ i = .int .i64 0 ∧ Mk0 w wr) (fun _ _ _ => 0)
  case atStart => exact ⟨rfl, rfl, Mk.refl _ _ _⟩
  case round =>
    obtain ⟨rfl, rfl, m1⟩ := hrel
    go_wp2
    go_ret
    exact ⟨rfl, m1⟩

set_option maxRecDepth 100000 in
set_option maxHeartbeats 800000 in
theorem heldNilUsage (w : World) : Calls Try.prog 109 #[.slice none 0 0, .int .i64 1] w fun en w' => en = .returned (.int .i64 1) ∧ Mk0 w w' := by
  go_enter Try.func109, Try.ntmps109
  go_wp2
  go_loopw [1, 4, 5] (fun q r i wr => q = .int .i64 1 ∧ r = .int .i64 0 ∧ i = .int .i64 0 ∧ Mk0 w wr) (fun _ _ _ _ => 0)
  case atStart => exact ⟨rfl, rfl, rfl, Mk.refl _ _ _⟩
  case round =>
    obtain ⟨rfl, rfl, rfl, m1⟩ := hrel
    go_wp2
    go_ret
    exact ⟨rfl, m1⟩

def capOf (c : Int) : Int := if 1 ≤ c ∧ c ≤ 20 then c else 1

set_option maxRecDepth 100000 in
set_option maxHeartbeats 1600000 in
theorem specNewScheduler (c : Int) (w : World) : Calls Try.prog 54 #[.int .i64 c] w fun en w' => en = .returned (.agg #[.int .i64 (capOf c), .slice none 0 0, .slice none 0 0]) ∧ Mk0 w w' := by
  by_cases cl1 : 1 ≤ c
  · by_cases ch1 : c ≤ 20
    · have dh1 : decide (c ≤ 20) = true := by simp; omega
      have hv : capOf c = c := if_pos ⟨by omega, by omega⟩
      rw [hv]
      clear hv
      go_enter Try.func54, Try.ntmps54
      go_wp2_with go_in
      refine bodyPost_ret (v := .agg #[.int .i64 c, .slice none 0 0, .slice none 0 0]) (by simp [results, Try.results54, go_sem]) rfl ⟨rfl, Mk.of_below ?_⟩
      go_grown
    · have dh1 : decide (c ≤ 20) = false := by simp; omega
      have hv : capOf c = 1 := if_neg (by omega)
      rw [hv]
      clear hv
      go_enter Try.func54, Try.ntmps54
      go_wp2_with go_in
      refine bodyPost_ret (v := .agg #[.int .i64 1, .slice none 0 0, .slice none 0 0]) (by simp [results, Try.results54, go_sem]) rfl ⟨rfl, Mk.of_below ?_⟩
      go_grown
  · have dl1 : c < 1 := by omega
    have hv : capOf c = 1 := if_neg (by omega)
    rw [hv]
    clear hv
    go_enter Try.func54, Try.ntmps54
    go_wp2_with go_in
    refine bodyPost_ret (v := .agg #[.int .i64 1, .slice none 0 0, .slice none 0 0]) (by simp [results, Try.results54, go_sem]) rfl ⟨rfl, Mk.of_below ?_⟩
    go_grown

set_option maxRecDepth 100000 in
set_option maxHeartbeats 1600000 in
theorem implNewScheduler (c : Int) (w : World) : Calls Try.prog 55 #[.int .i64 c] w fun en w' => en = .returned (.agg #[.int .i64 (capOf c), .slice none 0 0, .slice none 0 0]) ∧ Mk0 w w' := by
  by_cases cl1 : 1 ≤ c
  · by_cases ch1 : c ≤ 20
    · have dh1 : decide (c ≤ 20) = true := by simp; omega
      have hv : capOf c = c := if_pos ⟨by omega, by omega⟩
      rw [hv]
      clear hv
      go_enter Try.func55, Try.ntmps55
      go_wp2_with go_in
      refine bodyPost_ret (v := .agg #[.int .i64 c, .slice none 0 0, .slice none 0 0]) (by simp [results, Try.results55, go_sem]) rfl ⟨rfl, Mk.of_below ?_⟩
      go_grown
    · have dh1 : decide (c ≤ 20) = false := by simp; omega
      have hv : capOf c = 1 := if_neg (by omega)
      rw [hv]
      clear hv
      go_enter Try.func55, Try.ntmps55
      go_wp2_with go_in
      refine bodyPost_ret (v := .agg #[.int .i64 1, .slice none 0 0, .slice none 0 0]) (by simp [results, Try.results55, go_sem]) rfl ⟨rfl, Mk.of_below ?_⟩
      go_grown
  · have dl1 : c < 1 := by omega
    have hv : capOf c = 1 := if_neg (by omega)
    rw [hv]
    clear hv
    go_enter Try.func55, Try.ntmps55
    go_wp2_with go_in
    refine bodyPost_ret (v := .agg #[.int .i64 1, .slice none 0 0, .slice none 0 0]) (by simp [results, Try.results55, go_sem]) rfl ⟨rfl, Mk.of_below ?_⟩
    go_grown

set_option maxRecDepth 100000 in
set_option maxHeartbeats 1600000 in
theorem eqNewScheduler (c : Int) (w : World) : Calls Try.prog 56 #[.agg #[.int .i64 c, .slice none 0 0, .slice none 0 0], .agg #[.int .i64 c, .slice none 0 0, .slice none 0 0]] w fun en w' => en = .returned (.bool true) ∧ Mk0 w w' := by
  have k0_0 : ((w.alloc (Obj.cells #[Value.int .i64 c, Value.slice none 0 0, Value.slice none 0 0] 73)).alloc (Obj.cells #[Value.int .i64 c, Value.slice none 0 0, Value.slice none 0 0] 73)).cell? ⟨w.heap.size, 0, none⟩ = some (.int .i64 c) := by simp [go_sem]
  have k0_1 : ((w.alloc (Obj.cells #[Value.int .i64 c, Value.slice none 0 0, Value.slice none 0 0] 73)).alloc (Obj.cells #[Value.int .i64 c, Value.slice none 0 0, Value.slice none 0 0] 73)).cell? ⟨w.heap.size, 1, none⟩ = some (.slice none 0 0) := by simp [go_sem]
  have k0_2 : ((w.alloc (Obj.cells #[Value.int .i64 c, Value.slice none 0 0, Value.slice none 0 0] 73)).alloc (Obj.cells #[Value.int .i64 c, Value.slice none 0 0, Value.slice none 0 0] 73)).cell? ⟨w.heap.size, 2, none⟩ = some (.slice none 0 0) := by simp [go_sem]
  have k1_0 : ((w.alloc (Obj.cells #[Value.int .i64 c, Value.slice none 0 0, Value.slice none 0 0] 73)).alloc (Obj.cells #[Value.int .i64 c, Value.slice none 0 0, Value.slice none 0 0] 73)).cell? ⟨w.heap.size + 1, 0, none⟩ = some (.int .i64 c) := by simp [go_sem]
  have k1_1 : ((w.alloc (Obj.cells #[Value.int .i64 c, Value.slice none 0 0, Value.slice none 0 0] 73)).alloc (Obj.cells #[Value.int .i64 c, Value.slice none 0 0, Value.slice none 0 0] 73)).cell? ⟨w.heap.size + 1, 1, none⟩ = some (.slice none 0 0) := by simp [go_sem]
  have k1_2 : ((w.alloc (Obj.cells #[Value.int .i64 c, Value.slice none 0 0, Value.slice none 0 0] 73)).alloc (Obj.cells #[Value.int .i64 c, Value.slice none 0 0, Value.slice none 0 0] 73)).cell? ⟨w.heap.size + 1, 2, none⟩ = some (.slice none 0 0) := by simp [go_sem]
  have M0 : Mk0 w ((w.alloc (Obj.cells #[Value.int .i64 c, Value.slice none 0 0, Value.slice none 0 0] 73)).alloc (Obj.cells #[Value.int .i64 c, Value.slice none 0 0, Value.slice none 0 0] 73)) := (Mk.alloc w _).trans (Mk.alloc _ _)
  go_enter Try.func56, Try.ntmps56
  go_wp2_with fail
  refine (eqNilReservation _).mono ?_
  rintro e w1 ⟨rfl, m1⟩
  have M1 := M0.trans m1
  replace k0_0 := m1.cellAt k0_0
  replace k0_1 := m1.cellAt k0_1
  replace k0_2 := m1.cellAt k0_2
  replace k1_0 := m1.cellAt k1_0
  replace k1_1 := m1.cellAt k1_1
  replace k1_2 := m1.cellAt k1_2
  go_wp2_with fail
  refine (eqNilUsage _).mono ?_
  rintro e w2 ⟨rfl, m2⟩
  have M2 := M1.trans m2
  replace k0_0 := m2.cellAt k0_0
  replace k0_1 := m2.cellAt k0_1
  replace k0_2 := m2.cellAt k0_2
  replace k1_0 := m2.cellAt k1_0
  replace k1_1 := m2.cellAt k1_1
  replace k1_2 := m2.cellAt k1_2
  go_wp2_with fail
  go_ret
  exact ⟨rfl, M2⟩

set_option maxRecDepth 100000 in
set_option maxHeartbeats 1600000 in
theorem markNewScheduler (c : Int) (w : World) : Calls Try.prog 57 #[.agg #[.int .i64 c, .slice none 0 0, .slice none 0 0], .int .i64 1] w fun en w' => en = .returned (.int .i64 1) ∧ Mk0 w w' := by
  have k0_0 : (w.alloc (Obj.cells #[Value.int .i64 c, Value.slice none 0 0, Value.slice none 0 0] 73)).cell? ⟨w.heap.size, 0, none⟩ = some (.int .i64 c) := by simp [go_sem]
  have k0_1 : (w.alloc (Obj.cells #[Value.int .i64 c, Value.slice none 0 0, Value.slice none 0 0] 73)).cell? ⟨w.heap.size, 1, none⟩ = some (.slice none 0 0) := by simp [go_sem]
  have k0_2 : (w.alloc (Obj.cells #[Value.int .i64 c, Value.slice none 0 0, Value.slice none 0 0] 73)).cell? ⟨w.heap.size, 2, none⟩ = some (.slice none 0 0) := by simp [go_sem]
  have M0 : Mk0 w (w.alloc (Obj.cells #[Value.int .i64 c, Value.slice none 0 0, Value.slice none 0 0] 73)) := (Mk.alloc w _)
  go_enter Try.func57, Try.ntmps57
  go_wp2_with fail
  refine (markNilReservation _).mono ?_
  rintro e w1 ⟨rfl, m1⟩
  have M1 := M0.trans m1
  replace k0_0 := m1.cellAt k0_0
  replace k0_1 := m1.cellAt k0_1
  replace k0_2 := m1.cellAt k0_2
  go_wp2_with fail
  refine (markNilUsage _).mono ?_
  rintro e w2 ⟨rfl, m2⟩
  have M2 := M1.trans m2
  replace k0_0 := m2.cellAt k0_0
  replace k0_1 := m2.cellAt k0_1
  replace k0_2 := m2.cellAt k0_2
  go_wp2_with fail
  go_ret
  exact ⟨rfl, M2⟩

set_option maxRecDepth 100000 in
set_option maxHeartbeats 1600000 in
theorem heldNewScheduler (c : Int) (w : World) : Calls Try.prog 58 #[.agg #[.int .i64 c, .slice none 0 0, .slice none 0 0], .int .i64 1] w fun en w' => en = .returned (.int .i64 1) ∧ Mk0 w w' := by
  have k0_0 : (w.alloc (Obj.cells #[Value.int .i64 c, Value.slice none 0 0, Value.slice none 0 0] 73)).cell? ⟨w.heap.size, 0, none⟩ = some (.int .i64 c) := by simp [go_sem]
  have k0_1 : (w.alloc (Obj.cells #[Value.int .i64 c, Value.slice none 0 0, Value.slice none 0 0] 73)).cell? ⟨w.heap.size, 1, none⟩ = some (.slice none 0 0) := by simp [go_sem]
  have k0_2 : (w.alloc (Obj.cells #[Value.int .i64 c, Value.slice none 0 0, Value.slice none 0 0] 73)).cell? ⟨w.heap.size, 2, none⟩ = some (.slice none 0 0) := by simp [go_sem]
  have M0 : Mk0 w (w.alloc (Obj.cells #[Value.int .i64 c, Value.slice none 0 0, Value.slice none 0 0] 73)) := (Mk.alloc w _)
  go_enter Try.func58, Try.ntmps58
  go_wp2_with fail
  refine (heldNilReservation _).mono ?_
  rintro e w1 ⟨rfl, m1⟩
  have M1 := M0.trans m1
  replace k0_0 := m1.cellAt k0_0
  replace k0_1 := m1.cellAt k0_1
  replace k0_2 := m1.cellAt k0_2
  go_wp2_with fail
  refine (heldNilUsage _).mono ?_
  rintro e w2 ⟨rfl, m2⟩
  have M2 := M1.trans m2
  replace k0_0 := m2.cellAt k0_0
  replace k0_1 := m2.cellAt k0_1
  replace k0_2 := m2.cellAt k0_2
  go_wp2_with fail
  go_ret
  exact ⟨rfl, M2⟩

end Go.Proofs.Ytdbaecgbhadkbaa
