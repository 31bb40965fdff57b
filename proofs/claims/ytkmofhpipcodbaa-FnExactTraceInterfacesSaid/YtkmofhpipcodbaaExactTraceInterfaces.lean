
/- For every trace, the law on TraceInterfaces returns true; no further condition. -/
import Derived.Test.YtkmofhpipcodbaaRows
import Derived.WalkKit
import Derived.ProofKit
import Derived.OpenShut
import Derived.ShutString
import Derived.ChangeOld
import Derived.Below
import Derived.Test.YtkmofhpipcodbaaOStep
import Derived.Test.YtkmofhpipcodbaaZStep
import Derived.Test.YtkmofhpipcodbaaOPathPart
import Derived.Test.YtkmofhpipcodbaaOpenN
import Derived.Test.YtkmofhpipcodbaaStruct
import Derived.Deep.RegionHeld3
import Derived.Test.YtkmofhpipcodbaaTrc
import Derived.Test.YtkmofhpipcodbaaKTrace
import Derived.Test.YtkmofhpipcodbaaIntMark
namespace Go.Proofs.Ytkmofhpipcodbaa.fnExactTraceInterfaces
open Go.ChangeShapes Go.WideShapes Go.ChangeAt Go.RowKit
open Go.ChangeMaps (open_string shut_string)
set_option linter.unusedVariables false

theorem own : ownKnob Try.prog.godebug = none := by kernel_rfl
theorem laidOut : laidOutB Try.prog = true := by kernel_rfl

set_option maxRecDepth 100000 in
set_option maxHeartbeats 4000000 in
theorem walk (a0_0 : Int) (a0_1 : Option Addr) (n0_1 c0_1 : Nat) (z0_1 : List TStep) (a0_2 : Int) (a0_3 : Int) (a0_4 : Int) (a0_5 : Option Addr) (n0_5 c0_5 : Nat) (z0_5 : List TPathPart) (a0_6 : Int) (a0_7 : Int) (a0_8 : Int) (a0_9 : Int) (a0_10 : Int) (a0_11 : Option Addr) (n0_11 c0_11 : Nat) (z0_11 : List TByte) (w : World) (w0_0 : (Lit.int .i64 a0_0).wf = true) (h0_1 : HasStep w w.heap.size a0_1 n0_1 z0_1) (m0_1 : n0_1 ≤ 9223372036854775807) (f0_1 : ∀ x ∈ z0_1, TStep.fits x) (w0_2 : (Lit.int .i64 a0_2).wf = true) (w0_3 : (Lit.int .i64 a0_3).wf = true) (w0_4 : (Lit.int .i64 a0_4).wf = true) (h0_5 : HasPathPart w w.heap.size a0_5 n0_5 z0_5) (m0_5 : n0_5 ≤ 9223372036854775807) (f0_5 : ∀ x ∈ z0_5, TPathPart.fits x) (w0_6 : (Lit.int .i64 a0_6).wf = true) (w0_7 : (Lit.int .i64 a0_7).wf = true) (w0_8 : (Lit.int .i64 a0_8).wf = true) (w0_9 : (Lit.int .i64 a0_9).wf = true) (w0_10 : (Lit.int .i64 a0_10).wf = true) (h0_11 : HasByte w w.heap.size a0_11 n0_11 z0_11) (m0_11 : n0_11 ≤ 9223372036854775807) (f0_11 : ∀ x ∈ z0_11, TByte.fits x) :
    Calls Try.prog 5 #[.agg #[.int .i64 a0_0, .slice a0_1 n0_1 c0_1, .int .i64 a0_2, .int .i64 a0_3, .int .i64 a0_4, .slice a0_5 n0_5 c0_5, .int .i64 a0_6, .int .i64 a0_7, .int .i64 a0_8, .int .i64 a0_9, .int .i64 a0_10, .slice a0_11 n0_11 c0_11]] w fun e w' => e = .returned (.bool true) ∧ Below w.heap.size w w' := by
  by_cases hbig0 : (1048576 : Int) < (n0_1 : Int) + ((szPathPart z0_5 n0_5 : Nat) : Int) + (n0_11 : Int)
  · go_enter Try.func5, Try.ntmps5
    go_wp2_with fail
    have M0 : Mk0 w (w.alloc (Obj.cells #[Value.int .i64 a0_0, Value.slice a0_1 n0_1 c0_1, Value.int .i64 a0_2, Value.int .i64 a0_3, Value.int .i64 a0_4, Value.slice a0_5 n0_5 c0_5, Value.int .i64 a0_6, Value.int .i64 a0_7, Value.int .i64 a0_8, Value.int .i64 a0_9, Value.int .i64 a0_10, Value.slice a0_11 n0_11 c0_11] 54)) := (Mk.alloc w _)
    have k0_0 : (w.alloc (Obj.cells #[Value.int .i64 a0_0, Value.slice a0_1 n0_1 c0_1, Value.int .i64 a0_2, Value.int .i64 a0_3, Value.int .i64 a0_4, Value.slice a0_5 n0_5 c0_5, Value.int .i64 a0_6, Value.int .i64 a0_7, Value.int .i64 a0_8, Value.int .i64 a0_9, Value.int .i64 a0_10, Value.slice a0_11 n0_11 c0_11] 54)).cell? ⟨w.heap.size, 0, none⟩ = some (.int .i64 a0_0) := by simp [go_sem]
    have k0_1 : (w.alloc (Obj.cells #[Value.int .i64 a0_0, Value.slice a0_1 n0_1 c0_1, Value.int .i64 a0_2, Value.int .i64 a0_3, Value.int .i64 a0_4, Value.slice a0_5 n0_5 c0_5, Value.int .i64 a0_6, Value.int .i64 a0_7, Value.int .i64 a0_8, Value.int .i64 a0_9, Value.int .i64 a0_10, Value.slice a0_11 n0_11 c0_11] 54)).cell? ⟨w.heap.size, 1, none⟩ = some (.slice a0_1 n0_1 c0_1) := by simp [go_sem]
    have k0_2 : (w.alloc (Obj.cells #[Value.int .i64 a0_0, Value.slice a0_1 n0_1 c0_1, Value.int .i64 a0_2, Value.int .i64 a0_3, Value.int .i64 a0_4, Value.slice a0_5 n0_5 c0_5, Value.int .i64 a0_6, Value.int .i64 a0_7, Value.int .i64 a0_8, Value.int .i64 a0_9, Value.int .i64 a0_10, Value.slice a0_11 n0_11 c0_11] 54)).cell? ⟨w.heap.size, 2, none⟩ = some (.int .i64 a0_2) := by simp [go_sem]
    have k0_3 : (w.alloc (Obj.cells #[Value.int .i64 a0_0, Value.slice a0_1 n0_1 c0_1, Value.int .i64 a0_2, Value.int .i64 a0_3, Value.int .i64 a0_4, Value.slice a0_5 n0_5 c0_5, Value.int .i64 a0_6, Value.int .i64 a0_7, Value.int .i64 a0_8, Value.int .i64 a0_9, Value.int .i64 a0_10, Value.slice a0_11 n0_11 c0_11] 54)).cell? ⟨w.heap.size, 3, none⟩ = some (.int .i64 a0_3) := by simp [go_sem]
    have k0_4 : (w.alloc (Obj.cells #[Value.int .i64 a0_0, Value.slice a0_1 n0_1 c0_1, Value.int .i64 a0_2, Value.int .i64 a0_3, Value.int .i64 a0_4, Value.slice a0_5 n0_5 c0_5, Value.int .i64 a0_6, Value.int .i64 a0_7, Value.int .i64 a0_8, Value.int .i64 a0_9, Value.int .i64 a0_10, Value.slice a0_11 n0_11 c0_11] 54)).cell? ⟨w.heap.size, 4, none⟩ = some (.int .i64 a0_4) := by simp [go_sem]
    have k0_5 : (w.alloc (Obj.cells #[Value.int .i64 a0_0, Value.slice a0_1 n0_1 c0_1, Value.int .i64 a0_2, Value.int .i64 a0_3, Value.int .i64 a0_4, Value.slice a0_5 n0_5 c0_5, Value.int .i64 a0_6, Value.int .i64 a0_7, Value.int .i64 a0_8, Value.int .i64 a0_9, Value.int .i64 a0_10, Value.slice a0_11 n0_11 c0_11] 54)).cell? ⟨w.heap.size, 5, none⟩ = some (.slice a0_5 n0_5 c0_5) := by simp [go_sem]
    have k0_6 : (w.alloc (Obj.cells #[Value.int .i64 a0_0, Value.slice a0_1 n0_1 c0_1, Value.int .i64 a0_2, Value.int .i64 a0_3, Value.int .i64 a0_4, Value.slice a0_5 n0_5 c0_5, Value.int .i64 a0_6, Value.int .i64 a0_7, Value.int .i64 a0_8, Value.int .i64 a0_9, Value.int .i64 a0_10, Value.slice a0_11 n0_11 c0_11] 54)).cell? ⟨w.heap.size, 6, none⟩ = some (.int .i64 a0_6) := by simp [go_sem]
    have k0_7 : (w.alloc (Obj.cells #[Value.int .i64 a0_0, Value.slice a0_1 n0_1 c0_1, Value.int .i64 a0_2, Value.int .i64 a0_3, Value.int .i64 a0_4, Value.slice a0_5 n0_5 c0_5, Value.int .i64 a0_6, Value.int .i64 a0_7, Value.int .i64 a0_8, Value.int .i64 a0_9, Value.int .i64 a0_10, Value.slice a0_11 n0_11 c0_11] 54)).cell? ⟨w.heap.size, 7, none⟩ = some (.int .i64 a0_7) := by simp [go_sem]
    have k0_8 : (w.alloc (Obj.cells #[Value.int .i64 a0_0, Value.slice a0_1 n0_1 c0_1, Value.int .i64 a0_2, Value.int .i64 a0_3, Value.int .i64 a0_4, Value.slice a0_5 n0_5 c0_5, Value.int .i64 a0_6, Value.int .i64 a0_7, Value.int .i64 a0_8, Value.int .i64 a0_9, Value.int .i64 a0_10, Value.slice a0_11 n0_11 c0_11] 54)).cell? ⟨w.heap.size, 8, none⟩ = some (.int .i64 a0_8) := by simp [go_sem]
    have k0_9 : (w.alloc (Obj.cells #[Value.int .i64 a0_0, Value.slice a0_1 n0_1 c0_1, Value.int .i64 a0_2, Value.int .i64 a0_3, Value.int .i64 a0_4, Value.slice a0_5 n0_5 c0_5, Value.int .i64 a0_6, Value.int .i64 a0_7, Value.int .i64 a0_8, Value.int .i64 a0_9, Value.int .i64 a0_10, Value.slice a0_11 n0_11 c0_11] 54)).cell? ⟨w.heap.size, 9, none⟩ = some (.int .i64 a0_9) := by simp [go_sem]
    have k0_10 : (w.alloc (Obj.cells #[Value.int .i64 a0_0, Value.slice a0_1 n0_1 c0_1, Value.int .i64 a0_2, Value.int .i64 a0_3, Value.int .i64 a0_4, Value.slice a0_5 n0_5 c0_5, Value.int .i64 a0_6, Value.int .i64 a0_7, Value.int .i64 a0_8, Value.int .i64 a0_9, Value.int .i64 a0_10, Value.slice a0_11 n0_11 c0_11] 54)).cell? ⟨w.heap.size, 10, none⟩ = some (.int .i64 a0_10) := by simp [go_sem]
    have k0_11 : (w.alloc (Obj.cells #[Value.int .i64 a0_0, Value.slice a0_1 n0_1 c0_1, Value.int .i64 a0_2, Value.int .i64 a0_3, Value.int .i64 a0_4, Value.slice a0_5 n0_5 c0_5, Value.int .i64 a0_6, Value.int .i64 a0_7, Value.int .i64 a0_8, Value.int .i64 a0_9, Value.int .i64 a0_10, Value.slice a0_11 n0_11 c0_11] 54)).cell? ⟨w.heap.size, 11, none⟩ = some (.slice a0_11 n0_11 c0_11) := by simp [go_sem]
    refine (szTraceB _ _ _ _ _ _ _ _ _ _ _ _ _ _ _ _ _ _ z0_5 w.heap.size _ _ (h0_5.mk M0 (Nat.le_refl _) (.inr (Nat.le_refl _))) M0.size (by omega) (by omega) (by omega) m0_1 m0_5 m0_11).mono ?_
    rintro e w1 ⟨rfl, m1⟩
    go_wp2_with fail
    go_ret
    exact ⟨rfl, (M0.trans m1).below0⟩
  have hn0 : (n0_1 : Int) + ((szPathPart z0_5 n0_5 : Nat) : Int) + (n0_11 : Int) ≤ (1048576 : Int) := by omega
  clear hbig0
  go_enter Try.func5, Try.ntmps5
  go_wp2_with fail
  have M0 : Mk0 w (w.alloc (Obj.cells #[Value.int .i64 a0_0, Value.slice a0_1 n0_1 c0_1, Value.int .i64 a0_2, Value.int .i64 a0_3, Value.int .i64 a0_4, Value.slice a0_5 n0_5 c0_5, Value.int .i64 a0_6, Value.int .i64 a0_7, Value.int .i64 a0_8, Value.int .i64 a0_9, Value.int .i64 a0_10, Value.slice a0_11 n0_11 c0_11] 54)) := (Mk.alloc w _)
  have k0_0 : (w.alloc (Obj.cells #[Value.int .i64 a0_0, Value.slice a0_1 n0_1 c0_1, Value.int .i64 a0_2, Value.int .i64 a0_3, Value.int .i64 a0_4, Value.slice a0_5 n0_5 c0_5, Value.int .i64 a0_6, Value.int .i64 a0_7, Value.int .i64 a0_8, Value.int .i64 a0_9, Value.int .i64 a0_10, Value.slice a0_11 n0_11 c0_11] 54)).cell? ⟨w.heap.size, 0, none⟩ = some (.int .i64 a0_0) := by simp [go_sem]
  have k0_1 : (w.alloc (Obj.cells #[Value.int .i64 a0_0, Value.slice a0_1 n0_1 c0_1, Value.int .i64 a0_2, Value.int .i64 a0_3, Value.int .i64 a0_4, Value.slice a0_5 n0_5 c0_5, Value.int .i64 a0_6, Value.int .i64 a0_7, Value.int .i64 a0_8, Value.int .i64 a0_9, Value.int .i64 a0_10, Value.slice a0_11 n0_11 c0_11] 54)).cell? ⟨w.heap.size, 1, none⟩ = some (.slice a0_1 n0_1 c0_1) := by simp [go_sem]
  have k0_2 : (w.alloc (Obj.cells #[Value.int .i64 a0_0, Value.slice a0_1 n0_1 c0_1, Value.int .i64 a0_2, Value.int .i64 a0_3, Value.int .i64 a0_4, Value.slice a0_5 n0_5 c0_5, Value.int .i64 a0_6, Value.int .i64 a0_7, Value.int .i64 a0_8, Value.int .i64 a0_9, Value.int .i64 a0_10, Value.slice a0_11 n0_11 c0_11] 54)).cell? ⟨w.heap.size, 2, none⟩ = some (.int .i64 a0_2) := by simp [go_sem]
  have k0_3 : (w.alloc (Obj.cells #[Value.int .i64 a0_0, Value.slice a0_1 n0_1 c0_1, Value.int .i64 a0_2, Value.int .i64 a0_3, Value.int .i64 a0_4, Value.slice a0_5 n0_5 c0_5, Value.int .i64 a0_6, Value.int .i64 a0_7, Value.int .i64 a0_8, Value.int .i64 a0_9, Value.int .i64 a0_10, Value.slice a0_11 n0_11 c0_11] 54)).cell? ⟨w.heap.size, 3, none⟩ = some (.int .i64 a0_3) := by simp [go_sem]
  have k0_4 : (w.alloc (Obj.cells #[Value.int .i64 a0_0, Value.slice a0_1 n0_1 c0_1, Value.int .i64 a0_2, Value.int .i64 a0_3, Value.int .i64 a0_4, Value.slice a0_5 n0_5 c0_5, Value.int .i64 a0_6, Value.int .i64 a0_7, Value.int .i64 a0_8, Value.int .i64 a0_9, Value.int .i64 a0_10, Value.slice a0_11 n0_11 c0_11] 54)).cell? ⟨w.heap.size, 4, none⟩ = some (.int .i64 a0_4) := by simp [go_sem]
  have k0_5 : (w.alloc (Obj.cells #[Value.int .i64 a0_0, Value.slice a0_1 n0_1 c0_1, Value.int .i64 a0_2, Value.int .i64 a0_3, Value.int .i64 a0_4, Value.slice a0_5 n0_5 c0_5, Value.int .i64 a0_6, Value.int .i64 a0_7, Value.int .i64 a0_8, Value.int .i64 a0_9, Value.int .i64 a0_10, Value.slice a0_11 n0_11 c0_11] 54)).cell? ⟨w.heap.size, 5, none⟩ = some (.slice a0_5 n0_5 c0_5) := by simp [go_sem]
  have k0_6 : (w.alloc (Obj.cells #[Value.int .i64 a0_0, Value.slice a0_1 n0_1 c0_1, Value.int .i64 a0_2, Value.int .i64 a0_3, Value.int .i64 a0_4, Value.slice a0_5 n0_5 c0_5, Value.int .i64 a0_6, Value.int .i64 a0_7, Value.int .i64 a0_8, Value.int .i64 a0_9, Value.int .i64 a0_10, Value.slice a0_11 n0_11 c0_11] 54)).cell? ⟨w.heap.size, 6, none⟩ = some (.int .i64 a0_6) := by simp [go_sem]
  have k0_7 : (w.alloc (Obj.cells #[Value.int .i64 a0_0, Value.slice a0_1 n0_1 c0_1, Value.int .i64 a0_2, Value.int .i64 a0_3, Value.int .i64 a0_4, Value.slice a0_5 n0_5 c0_5, Value.int .i64 a0_6, Value.int .i64 a0_7, Value.int .i64 a0_8, Value.int .i64 a0_9, Value.int .i64 a0_10, Value.slice a0_11 n0_11 c0_11] 54)).cell? ⟨w.heap.size, 7, none⟩ = some (.int .i64 a0_7) := by simp [go_sem]
  have k0_8 : (w.alloc (Obj.cells #[Value.int .i64 a0_0, Value.slice a0_1 n0_1 c0_1, Value.int .i64 a0_2, Value.int .i64 a0_3, Value.int .i64 a0_4, Value.slice a0_5 n0_5 c0_5, Value.int .i64 a0_6, Value.int .i64 a0_7, Value.int .i64 a0_8, Value.int .i64 a0_9, Value.int .i64 a0_10, Value.slice a0_11 n0_11 c0_11] 54)).cell? ⟨w.heap.size, 8, none⟩ = some (.int .i64 a0_8) := by simp [go_sem]
  have k0_9 : (w.alloc (Obj.cells #[Value.int .i64 a0_0, Value.slice a0_1 n0_1 c0_1, Value.int .i64 a0_2, Value.int .i64 a0_3, Value.int .i64 a0_4, Value.slice a0_5 n0_5 c0_5, Value.int .i64 a0_6, Value.int .i64 a0_7, Value.int .i64 a0_8, Value.int .i64 a0_9, Value.int .i64 a0_10, Value.slice a0_11 n0_11 c0_11] 54)).cell? ⟨w.heap.size, 9, none⟩ = some (.int .i64 a0_9) := by simp [go_sem]
  have k0_10 : (w.alloc (Obj.cells #[Value.int .i64 a0_0, Value.slice a0_1 n0_1 c0_1, Value.int .i64 a0_2, Value.int .i64 a0_3, Value.int .i64 a0_4, Value.slice a0_5 n0_5 c0_5, Value.int .i64 a0_6, Value.int .i64 a0_7, Value.int .i64 a0_8, Value.int .i64 a0_9, Value.int .i64 a0_10, Value.slice a0_11 n0_11 c0_11] 54)).cell? ⟨w.heap.size, 10, none⟩ = some (.int .i64 a0_10) := by simp [go_sem]
  have k0_11 : (w.alloc (Obj.cells #[Value.int .i64 a0_0, Value.slice a0_1 n0_1 c0_1, Value.int .i64 a0_2, Value.int .i64 a0_3, Value.int .i64 a0_4, Value.slice a0_5 n0_5 c0_5, Value.int .i64 a0_6, Value.int .i64 a0_7, Value.int .i64 a0_8, Value.int .i64 a0_9, Value.int .i64 a0_10, Value.slice a0_11 n0_11 c0_11] 54)).cell? ⟨w.heap.size, 11, none⟩ = some (.slice a0_11 n0_11 c0_11) := by simp [go_sem]
  refine (szTraceC _ _ _ _ _ _ _ _ _ _ _ _ _ _ _ _ _ _ z0_5 w.heap.size _ _ (h0_5.mk M0 (Nat.le_refl _) (.inr (Nat.le_refl _))) M0.size (by omega) (by omega) (by omega)).mono ?_
  rintro e w1 ⟨l1, hl1, rfl, m1⟩
  have M1 := M0.trans m1
  replace k0_0 := m1.cellAt k0_0
  replace k0_1 := m1.cellAt k0_1
  replace k0_2 := m1.cellAt k0_2
  replace k0_3 := m1.cellAt k0_3
  replace k0_4 := m1.cellAt k0_4
  replace k0_5 := m1.cellAt k0_5
  replace k0_6 := m1.cellAt k0_6
  replace k0_7 := m1.cellAt k0_7
  replace k0_8 := m1.cellAt k0_8
  replace k0_9 := m1.cellAt k0_9
  replace k0_10 := m1.cellAt k0_10
  replace k0_11 := m1.cellAt k0_11
  have z1 := m1.size
  simp only [World.size_alloc] at z1
  go_wp2_with fail
  refine (toTraceC _ _ _ _ _ _ _ _ _ _ _ _ _ _ _ _ _ _ _ _ _ w.heap.size _ (h0_1.mk M1 (Nat.le_refl _) (.inr (Nat.le_refl _))) (h0_5.mk M1 (Nat.le_refl _) (.inr (Nat.le_refl _))) (h0_11.mk M1 (Nat.le_refl _) (.inr (Nat.le_refl _))) (by omega) (by omega) (by omega) (by omega)).mono ?_
  rintro e w2 ⟨b1, b2, b3, d4, d5, rfl, o6, o7, o8, g9, g10, g11, m2⟩
  have M2 := M1.trans m2
  have z2 := m2.size
  replace k0_0 := m2.cellAt k0_0
  replace k0_1 := m2.cellAt k0_1
  replace k0_2 := m2.cellAt k0_2
  replace k0_3 := m2.cellAt k0_3
  replace k0_4 := m2.cellAt k0_4
  replace k0_5 := m2.cellAt k0_5
  replace k0_6 := m2.cellAt k0_6
  replace k0_7 := m2.cellAt k0_7
  replace k0_8 := m2.cellAt k0_8
  replace k0_9 := m2.cellAt k0_9
  replace k0_10 := m2.cellAt k0_10
  replace k0_11 := m2.cellAt k0_11
  have h12 := o6.has.mono (B' := w2.heap.size) (by omega)
  clear o6
  have h13 := o7.has.mono (B' := w2.heap.size) (by omega)
  clear o7
  have h14 := o8.has.mono (B' := w2.heap.size) (by omega)
  clear o8
  go_wp2_with fail
  refine (((specTrc a0_0 a0_2 a0_3 a0_4 a0_6 a0_7 a0_8 a0_9 a0_10 _ _ _ _ _ _ _ _ _ _ z0_1 _ h12 (by omega) (by omega)).mono fun _ _ hh => OutOwnI.r hh)).mono ?_
  rintro e w3 ⟨A3, N3, c3, rfl, hc3, oo3, bb3⟩
  have m3 := Mk.of_below bb3
  have ow0 := oo3.toR (hi := w3.heap.size) (Nat.le_refl _)
  clear oo3 bb3 hc3
  have hbw0 : N3 ≤ 1073741824 := by have := ow0.1; have h2 := usedUp_len z0_1 n0_1; omega
  have M3 := M2.trans m3
  have z3 := m3.size
  replace k0_0 := m3.cellAt k0_0
  replace k0_1 := m3.cellAt k0_1
  replace k0_2 := m3.cellAt k0_2
  replace k0_3 := m3.cellAt k0_3
  replace k0_4 := m3.cellAt k0_4
  replace k0_5 := m3.cellAt k0_5
  replace k0_6 := m3.cellAt k0_6
  replace k0_7 := m3.cellAt k0_7
  replace k0_8 := m3.cellAt k0_8
  replace k0_9 := m3.cellAt k0_9
  replace k0_10 := m3.cellAt k0_10
  replace k0_11 := m3.cellAt k0_11
  replace h12 := h12.mk m3 (by omega) (.inr (Nat.le_refl _))
  replace h13 := h13.mk m3 (by omega) (.inr (Nat.le_refl _))
  replace h14 := h14.mk m3 (by omega) (.inr (Nat.le_refl _))
  go_wp2_with fail
  refine (toTraceC _ _ _ _ _ _ _ _ _ _ _ _ _ _ _ _ _ _ _ _ _ w.heap.size _ (h0_1.mk M3 (Nat.le_refl _) (.inr (Nat.le_refl _))) (h0_5.mk M3 (Nat.le_refl _) (.inr (Nat.le_refl _))) (h0_11.mk M3 (Nat.le_refl _) (.inr (Nat.le_refl _))) (by omega) (by omega) (by omega) (by omega)).mono ?_
  rintro e w4 ⟨b15, b16, b17, d18, d19, rfl, o20, o21, o22, g23, g24, g25, m4⟩
  have M4 := M3.trans m4
  have z4 := m4.size
  replace k0_0 := m4.cellAt k0_0
  replace k0_1 := m4.cellAt k0_1
  replace k0_2 := m4.cellAt k0_2
  replace k0_3 := m4.cellAt k0_3
  replace k0_4 := m4.cellAt k0_4
  replace k0_5 := m4.cellAt k0_5
  replace k0_6 := m4.cellAt k0_6
  replace k0_7 := m4.cellAt k0_7
  replace k0_8 := m4.cellAt k0_8
  replace k0_9 := m4.cellAt k0_9
  replace k0_10 := m4.cellAt k0_10
  replace k0_11 := m4.cellAt k0_11
  replace ow0 := ow0.mk m4 (by omega) (.inr (.inr (Nat.le_refl _)))
  have h26 := o20.has.mono (B' := w4.heap.size) (by omega)
  have h27 := o21.has.mono (B' := w4.heap.size) (by omega)
  have h28 := o22.has.mono (B' := w4.heap.size) (by omega)
  go_wp2_with fail
  have xx_0 : (w4.alloc (Obj.cells #[Value.int .i64 a0_0, Value.slice (some ⟨b15, 0, none⟩) n0_1 n0_1, Value.int .i64 a0_2, Value.int .i64 a0_3, Value.int .i64 a0_4, Value.slice (some ⟨b16, 0, none⟩) n0_5 n0_5, Value.int .i64 a0_6, Value.int .i64 a0_7, Value.int .i64 a0_8, Value.int .i64 a0_9, Value.int .i64 a0_10, Value.slice (some ⟨b17, 0, none⟩) n0_11 n0_11] 61)).cell? ⟨w4.heap.size, 0, none⟩ = some (.int .i64 a0_0) := by rw [World.cell?_alloc_at _ _ _ _ rfl]; rfl
  have xx_1 : (w4.alloc (Obj.cells #[Value.int .i64 a0_0, Value.slice (some ⟨b15, 0, none⟩) n0_1 n0_1, Value.int .i64 a0_2, Value.int .i64 a0_3, Value.int .i64 a0_4, Value.slice (some ⟨b16, 0, none⟩) n0_5 n0_5, Value.int .i64 a0_6, Value.int .i64 a0_7, Value.int .i64 a0_8, Value.int .i64 a0_9, Value.int .i64 a0_10, Value.slice (some ⟨b17, 0, none⟩) n0_11 n0_11] 61)).cell? ⟨w4.heap.size, 1, none⟩ = some (.slice (some ⟨b15, 0, none⟩) n0_1 n0_1) := by rw [World.cell?_alloc_at _ _ _ _ rfl]; rfl
  have xx_2 : (w4.alloc (Obj.cells #[Value.int .i64 a0_0, Value.slice (some ⟨b15, 0, none⟩) n0_1 n0_1, Value.int .i64 a0_2, Value.int .i64 a0_3, Value.int .i64 a0_4, Value.slice (some ⟨b16, 0, none⟩) n0_5 n0_5, Value.int .i64 a0_6, Value.int .i64 a0_7, Value.int .i64 a0_8, Value.int .i64 a0_9, Value.int .i64 a0_10, Value.slice (some ⟨b17, 0, none⟩) n0_11 n0_11] 61)).cell? ⟨w4.heap.size, 2, none⟩ = some (.int .i64 a0_2) := by rw [World.cell?_alloc_at _ _ _ _ rfl]; rfl
  have xx_3 : (w4.alloc (Obj.cells #[Value.int .i64 a0_0, Value.slice (some ⟨b15, 0, none⟩) n0_1 n0_1, Value.int .i64 a0_2, Value.int .i64 a0_3, Value.int .i64 a0_4, Value.slice (some ⟨b16, 0, none⟩) n0_5 n0_5, Value.int .i64 a0_6, Value.int .i64 a0_7, Value.int .i64 a0_8, Value.int .i64 a0_9, Value.int .i64 a0_10, Value.slice (some ⟨b17, 0, none⟩) n0_11 n0_11] 61)).cell? ⟨w4.heap.size, 3, none⟩ = some (.int .i64 a0_3) := by rw [World.cell?_alloc_at _ _ _ _ rfl]; rfl
  have xx_4 : (w4.alloc (Obj.cells #[Value.int .i64 a0_0, Value.slice (some ⟨b15, 0, none⟩) n0_1 n0_1, Value.int .i64 a0_2, Value.int .i64 a0_3, Value.int .i64 a0_4, Value.slice (some ⟨b16, 0, none⟩) n0_5 n0_5, Value.int .i64 a0_6, Value.int .i64 a0_7, Value.int .i64 a0_8, Value.int .i64 a0_9, Value.int .i64 a0_10, Value.slice (some ⟨b17, 0, none⟩) n0_11 n0_11] 61)).cell? ⟨w4.heap.size, 4, none⟩ = some (.int .i64 a0_4) := by rw [World.cell?_alloc_at _ _ _ _ rfl]; rfl
  have xx_5 : (w4.alloc (Obj.cells #[Value.int .i64 a0_0, Value.slice (some ⟨b15, 0, none⟩) n0_1 n0_1, Value.int .i64 a0_2, Value.int .i64 a0_3, Value.int .i64 a0_4, Value.slice (some ⟨b16, 0, none⟩) n0_5 n0_5, Value.int .i64 a0_6, Value.int .i64 a0_7, Value.int .i64 a0_8, Value.int .i64 a0_9, Value.int .i64 a0_10, Value.slice (some ⟨b17, 0, none⟩) n0_11 n0_11] 61)).cell? ⟨w4.heap.size, 5, none⟩ = some (.slice (some ⟨b16, 0, none⟩) n0_5 n0_5) := by rw [World.cell?_alloc_at _ _ _ _ rfl]; rfl
  have xx_6 : (w4.alloc (Obj.cells #[Value.int .i64 a0_0, Value.slice (some ⟨b15, 0, none⟩) n0_1 n0_1, Value.int .i64 a0_2, Value.int .i64 a0_3, Value.int .i64 a0_4, Value.slice (some ⟨b16, 0, none⟩) n0_5 n0_5, Value.int .i64 a0_6, Value.int .i64 a0_7, Value.int .i64 a0_8, Value.int .i64 a0_9, Value.int .i64 a0_10, Value.slice (some ⟨b17, 0, none⟩) n0_11 n0_11] 61)).cell? ⟨w4.heap.size, 6, none⟩ = some (.int .i64 a0_6) := by rw [World.cell?_alloc_at _ _ _ _ rfl]; rfl
  have xx_7 : (w4.alloc (Obj.cells #[Value.int .i64 a0_0, Value.slice (some ⟨b15, 0, none⟩) n0_1 n0_1, Value.int .i64 a0_2, Value.int .i64 a0_3, Value.int .i64 a0_4, Value.slice (some ⟨b16, 0, none⟩) n0_5 n0_5, Value.int .i64 a0_6, Value.int .i64 a0_7, Value.int .i64 a0_8, Value.int .i64 a0_9, Value.int .i64 a0_10, Value.slice (some ⟨b17, 0, none⟩) n0_11 n0_11] 61)).cell? ⟨w4.heap.size, 7, none⟩ = some (.int .i64 a0_7) := by rw [World.cell?_alloc_at _ _ _ _ rfl]; rfl
  have xx_8 : (w4.alloc (Obj.cells #[Value.int .i64 a0_0, Value.slice (some ⟨b15, 0, none⟩) n0_1 n0_1, Value.int .i64 a0_2, Value.int .i64 a0_3, Value.int .i64 a0_4, Value.slice (some ⟨b16, 0, none⟩) n0_5 n0_5, Value.int .i64 a0_6, Value.int .i64 a0_7, Value.int .i64 a0_8, Value.int .i64 a0_9, Value.int .i64 a0_10, Value.slice (some ⟨b17, 0, none⟩) n0_11 n0_11] 61)).cell? ⟨w4.heap.size, 8, none⟩ = some (.int .i64 a0_8) := by rw [World.cell?_alloc_at _ _ _ _ rfl]; rfl
  have xx_9 : (w4.alloc (Obj.cells #[Value.int .i64 a0_0, Value.slice (some ⟨b15, 0, none⟩) n0_1 n0_1, Value.int .i64 a0_2, Value.int .i64 a0_3, Value.int .i64 a0_4, Value.slice (some ⟨b16, 0, none⟩) n0_5 n0_5, Value.int .i64 a0_6, Value.int .i64 a0_7, Value.int .i64 a0_8, Value.int .i64 a0_9, Value.int .i64 a0_10, Value.slice (some ⟨b17, 0, none⟩) n0_11 n0_11] 61)).cell? ⟨w4.heap.size, 9, none⟩ = some (.int .i64 a0_9) := by rw [World.cell?_alloc_at _ _ _ _ rfl]; rfl
  have xx_10 : (w4.alloc (Obj.cells #[Value.int .i64 a0_0, Value.slice (some ⟨b15, 0, none⟩) n0_1 n0_1, Value.int .i64 a0_2, Value.int .i64 a0_3, Value.int .i64 a0_4, Value.slice (some ⟨b16, 0, none⟩) n0_5 n0_5, Value.int .i64 a0_6, Value.int .i64 a0_7, Value.int .i64 a0_8, Value.int .i64 a0_9, Value.int .i64 a0_10, Value.slice (some ⟨b17, 0, none⟩) n0_11 n0_11] 61)).cell? ⟨w4.heap.size, 10, none⟩ = some (.int .i64 a0_10) := by rw [World.cell?_alloc_at _ _ _ _ rfl]; rfl
  have xx_11 : (w4.alloc (Obj.cells #[Value.int .i64 a0_0, Value.slice (some ⟨b15, 0, none⟩) n0_1 n0_1, Value.int .i64 a0_2, Value.int .i64 a0_3, Value.int .i64 a0_4, Value.slice (some ⟨b16, 0, none⟩) n0_5 n0_5, Value.int .i64 a0_6, Value.int .i64 a0_7, Value.int .i64 a0_8, Value.int .i64 a0_9, Value.int .i64 a0_10, Value.slice (some ⟨b17, 0, none⟩) n0_11 n0_11] 61)).cell? ⟨w4.heap.size, 11, none⟩ = some (.slice (some ⟨b17, 0, none⟩) n0_11 n0_11) := by rw [World.cell?_alloc_at _ _ _ _ rfl]; rfl
  have m5 := Mk.alloc w4 (Obj.cells #[Value.int .i64 a0_0, Value.slice (some ⟨b15, 0, none⟩) n0_1 n0_1, Value.int .i64 a0_2, Value.int .i64 a0_3, Value.int .i64 a0_4, Value.slice (some ⟨b16, 0, none⟩) n0_5 n0_5, Value.int .i64 a0_6, Value.int .i64 a0_7, Value.int .i64 a0_8, Value.int .i64 a0_9, Value.int .i64 a0_10, Value.slice (some ⟨b17, 0, none⟩) n0_11 n0_11] 61)
  replace k0_0 := m5.cellAt k0_0
  replace k0_1 := m5.cellAt k0_1
  replace k0_2 := m5.cellAt k0_2
  replace k0_3 := m5.cellAt k0_3
  replace k0_4 := m5.cellAt k0_4
  replace k0_5 := m5.cellAt k0_5
  replace k0_6 := m5.cellAt k0_6
  replace k0_7 := m5.cellAt k0_7
  replace k0_8 := m5.cellAt k0_8
  replace k0_9 := m5.cellAt k0_9
  replace k0_10 := m5.cellAt k0_10
  replace k0_11 := m5.cellAt k0_11
  replace h26 := h26.mk m5 (by omega) (.inr (Nat.le_refl _))
  replace h27 := h27.mk m5 (by omega) (.inr (Nat.le_refl _))
  replace h28 := h28.mk m5 (by omega) (.inr (Nat.le_refl _))
  replace o20 := o20.mk m5 (by omega) (.inr (.inr (Nat.le_refl _)))
  replace o21 := o21.mk m5 (by omega) (.inr (.inr (Nat.le_refl _)))
  replace o22 := o22.mk m5 (by omega) (.inr (.inr (Nat.le_refl _)))
  replace ow0 := ow0.mk m5 (by omega) (.inr (.inr (Nat.le_refl _)))
  have M5 := M4.trans m5
  have z5 := m5.size
  have zz5 : w4.heap.size < (w4.alloc (Obj.cells #[Value.int .i64 a0_0, Value.slice (some ⟨b15, 0, none⟩) n0_1 n0_1, Value.int .i64 a0_2, Value.int .i64 a0_3, Value.int .i64 a0_4, Value.slice (some ⟨b16, 0, none⟩) n0_5 n0_5, Value.int .i64 a0_6, Value.int .i64 a0_7, Value.int .i64 a0_8, Value.int .i64 a0_9, Value.int .i64 a0_10, Value.slice (some ⟨b17, 0, none⟩) n0_11 n0_11] 61)).heap.size := by rw [World.size_alloc]; omega
  generalize (w4.alloc (Obj.cells #[Value.int .i64 a0_0, Value.slice (some ⟨b15, 0, none⟩) n0_1 n0_1, Value.int .i64 a0_2, Value.int .i64 a0_3, Value.int .i64 a0_4, Value.slice (some ⟨b16, 0, none⟩) n0_5 n0_5, Value.int .i64 a0_6, Value.int .i64 a0_7, Value.int .i64 a0_8, Value.int .i64 a0_9, Value.int .i64 a0_10, Value.slice (some ⟨b17, 0, none⟩) n0_11 n0_11] 61)) = w5 at *
  refine (((implTrc a0_0 a0_2 a0_3 a0_4 a0_6 a0_7 a0_8 a0_9 a0_10 _ _ _ _ _ _ _ _ _ _ z0_1 _ h26 (by omega) (by omega)).mono fun _ _ hh => OutOwnI.r hh)).mono ?_
  rintro e w6 ⟨A6, N6, c6, rfl, hc6, oo6, bb6⟩
  have m6 := Mk.of_below bb6
  have og0 := oo6.toR (hi := w6.heap.size) (Nat.le_refl _)
  clear oo6 bb6 hc6
  obtain rfl : N3 = N6 := ow0.1.symm.trans og0.1
  have M6 := M5.trans m6
  have z6 := m6.size
  replace k0_0 := m6.cellAt k0_0
  replace k0_1 := m6.cellAt k0_1
  replace k0_2 := m6.cellAt k0_2
  replace k0_3 := m6.cellAt k0_3
  replace k0_4 := m6.cellAt k0_4
  replace k0_5 := m6.cellAt k0_5
  replace k0_6 := m6.cellAt k0_6
  replace k0_7 := m6.cellAt k0_7
  replace k0_8 := m6.cellAt k0_8
  replace k0_9 := m6.cellAt k0_9
  replace k0_10 := m6.cellAt k0_10
  replace k0_11 := m6.cellAt k0_11
  replace xx_0 := m6.cellAt xx_0
  replace xx_1 := m6.cellAt xx_1
  replace xx_2 := m6.cellAt xx_2
  replace xx_3 := m6.cellAt xx_3
  replace xx_4 := m6.cellAt xx_4
  replace xx_5 := m6.cellAt xx_5
  replace xx_6 := m6.cellAt xx_6
  replace xx_7 := m6.cellAt xx_7
  replace xx_8 := m6.cellAt xx_8
  replace xx_9 := m6.cellAt xx_9
  replace xx_10 := m6.cellAt xx_10
  replace xx_11 := m6.cellAt xx_11
  replace h26 := h26.mk m6 (by omega) (.inr (Nat.le_refl _))
  replace h27 := h27.mk m6 (by omega) (.inr (Nat.le_refl _))
  replace h28 := h28.mk m6 (by omega) (.inr (Nat.le_refl _))
  replace o20 := o20.mk m6 (by omega) (.inr (.inr (Nat.le_refl _)))
  replace o21 := o21.mk m6 (by omega) (.inr (.inr (Nat.le_refl _)))
  replace o22 := o22.mk m6 (by omega) (.inr (.inr (Nat.le_refl _)))
  replace ow0 := ow0.mk m6 (by omega) (.inr (.inr (Nat.le_refl _)))
  go_wp2_with fail
  refine (eqInt _ _ _ _ _ _ _ _ _ (hasR_int.1 og0.has) (hasR_int.1 ow0.has) hbw0).mono ?_
  rintro e w7 ⟨rfl, mm7, hw7⟩
  have m7 : Mk0 w6 w7 := by rw [hw7]; exact Mk.drewN _ _
  clear hw7
  have M7 := M6.trans m7
  have z7 := m7.size
  replace k0_0 := m7.cellAt k0_0
  replace k0_1 := m7.cellAt k0_1
  replace k0_2 := m7.cellAt k0_2
  replace k0_3 := m7.cellAt k0_3
  replace k0_4 := m7.cellAt k0_4
  replace k0_5 := m7.cellAt k0_5
  replace k0_6 := m7.cellAt k0_6
  replace k0_7 := m7.cellAt k0_7
  replace k0_8 := m7.cellAt k0_8
  replace k0_9 := m7.cellAt k0_9
  replace k0_10 := m7.cellAt k0_10
  replace k0_11 := m7.cellAt k0_11
  replace xx_0 := m7.cellAt xx_0
  replace xx_1 := m7.cellAt xx_1
  replace xx_2 := m7.cellAt xx_2
  replace xx_3 := m7.cellAt xx_3
  replace xx_4 := m7.cellAt xx_4
  replace xx_5 := m7.cellAt xx_5
  replace xx_6 := m7.cellAt xx_6
  replace xx_7 := m7.cellAt xx_7
  replace xx_8 := m7.cellAt xx_8
  replace xx_9 := m7.cellAt xx_9
  replace xx_10 := m7.cellAt xx_10
  replace xx_11 := m7.cellAt xx_11
  replace h26 := h26.mk m7 (by omega) (.inr (Nat.le_refl _))
  replace h27 := h27.mk m7 (by omega) (.inr (Nat.le_refl _))
  replace h28 := h28.mk m7 (by omega) (.inr (Nat.le_refl _))
  replace o20 := o20.mk m7 (by omega) (.inr (.inr (Nat.le_refl _)))
  replace o21 := o21.mk m7 (by omega) (.inr (.inr (Nat.le_refl _)))
  replace o22 := o22.mk m7 (by omega) (.inr (.inr (Nat.le_refl _)))
  replace ow0 := ow0.mk m7 (by omega) (.inr (.inr (Nat.le_refl _)))
  replace og0 := og0.mk m7 (by omega) (.inr (.inr (Nat.le_refl _)))
  go_wp2_with fail
  have e29 : ∀ w', Mk0 w7 w' → HasStep w' w4.heap.size (some ⟨b15, 0, none⟩) n0_1 z0_1 := fun w' m => h26.mk m (by omega) (.inr (Nat.le_refl _))
  have e30 : ∀ w', Mk0 w7 w' → HasPathPart w' w4.heap.size (some ⟨b16, 0, none⟩) n0_5 z0_5 := fun w' m => h27.mk m (by omega) (.inr (Nat.le_refl _))
  have e31 : ∀ w', Mk0 w7 w' → HasByte w' w4.heap.size (some ⟨b17, 0, none⟩) n0_11 z0_11 := fun w' m => h28.mk m (by omega) (.inr (Nat.le_refl _))
  have e32 : ∀ w', Mk0 w7 w' → w4.heap.size ≤ w'.heap.size := fun w' m => Nat.le_trans (by omega) m.size
  have e33 : ∀ w', Mk0 w7 w' → HasStep w' w.heap.size a0_1 n0_1 z0_1 := fun w' m => h0_1.mk (M7.trans m) (Nat.le_refl _) (.inr (Nat.le_refl _))
  have e34 : ∀ w', Mk0 w7 w' → HasPathPart w' w.heap.size a0_5 n0_5 z0_5 := fun w' m => h0_5.mk (M7.trans m) (Nat.le_refl _) (.inr (Nat.le_refl _))
  have e35 : ∀ w', Mk0 w7 w' → HasByte w' w.heap.size a0_11 n0_11 z0_11 := fun w' m => h0_11.mk (M7.trans m) (Nat.le_refl _) (.inr (Nat.le_refl _))
  have hN0_1 : n0_1 ≤ 1048576 := by omega
  have hN0_5 : szPathPart z0_5 n0_5 ≤ 1048576 := by omega
  have hN0_11 : n0_11 ≤ 1048576 := by omega
  go_region_held3 (fun w' => Mk0 w7 w' ∧ w'.cell? ⟨w.heap.size, 0, none⟩ = some (.int .i64 a0_0) ∧ w'.cell? ⟨w.heap.size, 1, none⟩ = some (.slice a0_1 n0_1 c0_1) ∧ w'.cell? ⟨w.heap.size, 2, none⟩ = some (.int .i64 a0_2) ∧ w'.cell? ⟨w.heap.size, 3, none⟩ = some (.int .i64 a0_3) ∧ w'.cell? ⟨w.heap.size, 4, none⟩ = some (.int .i64 a0_4) ∧ w'.cell? ⟨w.heap.size, 5, none⟩ = some (.slice a0_5 n0_5 c0_5) ∧ w'.cell? ⟨w.heap.size, 6, none⟩ = some (.int .i64 a0_6) ∧ w'.cell? ⟨w.heap.size, 7, none⟩ = some (.int .i64 a0_7) ∧ w'.cell? ⟨w.heap.size, 8, none⟩ = some (.int .i64 a0_8) ∧ w'.cell? ⟨w.heap.size, 9, none⟩ = some (.int .i64 a0_9) ∧ w'.cell? ⟨w.heap.size, 10, none⟩ = some (.int .i64 a0_10) ∧ w'.cell? ⟨w.heap.size, 11, none⟩ = some (.slice a0_11 n0_11 c0_11) ∧ w'.cell? ⟨w4.heap.size, 0, none⟩ = some (.int .i64 a0_0) ∧ w'.cell? ⟨w4.heap.size, 1, none⟩ = some (.slice (some ⟨b15, 0, none⟩) n0_1 n0_1) ∧ w'.cell? ⟨w4.heap.size, 2, none⟩ = some (.int .i64 a0_2) ∧ w'.cell? ⟨w4.heap.size, 3, none⟩ = some (.int .i64 a0_3) ∧ w'.cell? ⟨w4.heap.size, 4, none⟩ = some (.int .i64 a0_4) ∧ w'.cell? ⟨w4.heap.size, 5, none⟩ = some (.slice (some ⟨b16, 0, none⟩) n0_5 n0_5) ∧ w'.cell? ⟨w4.heap.size, 6, none⟩ = some (.int .i64 a0_6) ∧ w'.cell? ⟨w4.heap.size, 7, none⟩ = some (.int .i64 a0_7) ∧ w'.cell? ⟨w4.heap.size, 8, none⟩ = some (.int .i64 a0_8) ∧ w'.cell? ⟨w4.heap.size, 9, none⟩ = some (.int .i64 a0_9) ∧ w'.cell? ⟨w4.heap.size, 10, none⟩ = some (.int .i64 a0_10) ∧ w'.cell? ⟨w4.heap.size, 11, none⟩ = some (.slice (some ⟨b17, 0, none⟩) n0_11 n0_11)) (first | exact ⟨Mk.drew1 _, k0_0, k0_1, k0_2, k0_3, k0_4, k0_5, k0_6, k0_7, k0_8, k0_9, k0_10, k0_11, xx_0, xx_1, xx_2, xx_3, xx_4, xx_5, xx_6, xx_7, xx_8, xx_9, xx_10, xx_11⟩ | (obtain ⟨s0, s1, s2, s3, s4, s5, s6, s7, s8, s9, s10, s11, s12, s13, s14, s15, s16, s17, s18, s19, s20, s21, s22, s23, s24⟩ := ‹Mk0 w7 _ ∧ _›; exact ⟨s0.trans mm, mm.cellAt s1, mm.cellAt s2, mm.cellAt s3, mm.cellAt s4, mm.cellAt s5, mm.cellAt s6, mm.cellAt s7, mm.cellAt s8, mm.cellAt s9, mm.cellAt s10, mm.cellAt s11, mm.cellAt s12, mm.cellAt s13, mm.cellAt s14, mm.cellAt s15, mm.cellAt s16, mm.cellAt s17, mm.cellAt s18, mm.cellAt s19, mm.cellAt s20, mm.cellAt s21, mm.cellAt s22, mm.cellAt s23, mm.cellAt s24⟩)) (first | (go_at_call 23; refine (toTraceC _ _ _ _ _ _ _ _ _ _ _ _ _ _ _ _ _ _ _ _ _ w.heap.size _ (e33 _ (‹Mk0 w7 _ ∧ _›).1) (e34 _ (‹Mk0 w7 _ ∧ _›).1) (e35 _ (‹Mk0 w7 _ ∧ _›).1) (M7.trans (‹Mk0 w7 _ ∧ _›).1).size hN0_1 hN0_5 hN0_11).mono ?_; rintro e wa ⟨bb0, bb1, bb2, dd0, dd1, rfl, oo0, oo1, oo2, gg0, gg1, gg2, mm⟩) | (go_at_call 25; refine (eqTraceC _ _ _ _ _ _ _ _ _ _ _ _ _ _ _ _ _ _ _ _ _ _ _ _ _ _ _ _ _ _ (e29 _ (‹Mk0 w7 _ ∧ _›).1) (e30 _ (‹Mk0 w7 _ ∧ _›).1) (e31 _ (‹Mk0 w7 _ ∧ _›).1) (oo0.has.mono (Nat.le_trans gg1 gg2)) (oo1.has.mono gg2) (oo2.has.mono (Nat.le_refl _)) (e32 _ (‹Mk0 w7 _ ∧ _›).1) (Nat.le_refl _) hN0_1 hN0_5 hN0_11).mono ?_; rintro e wb8 ⟨rfl, mm⟩))
  obtain ⟨m8, k0_0, k0_1, k0_2, k0_3, k0_4, k0_5, k0_6, k0_7, k0_8, k0_9, k0_10, k0_11, xx_0, xx_1, xx_2, xx_3, xx_4, xx_5, xx_6, xx_7, xx_8, xx_9, xx_10, xx_11⟩ := ‹Mk0 w7 _ ∧ _›
  clear e29 e30 e31 e32 e33 e34 e35 hN0_1 hN0_5 hN0_11
  refine ‹∀ (a : Act) (w : World), _ → _› _ _ ?_
  have M8 := M7.trans m8
  have z8 := m8.size
  replace h26 := h26.mk m8 (by omega) (.inr (Nat.le_refl _))
  replace h27 := h27.mk m8 (by omega) (.inr (Nat.le_refl _))
  replace h28 := h28.mk m8 (by omega) (.inr (Nat.le_refl _))
  replace o20 := o20.mk m8 (by omega) (.inr (.inr (Nat.le_refl _)))
  replace o21 := o21.mk m8 (by omega) (.inr (.inr (Nat.le_refl _)))
  replace o22 := o22.mk m8 (by omega) (.inr (.inr (Nat.le_refl _)))
  replace ow0 := ow0.mk m8 (by omega) (.inr (.inr (Nat.le_refl _)))
  replace og0 := og0.mk m8 (by omega) (.inr (.inr (Nat.le_refl _)))
  go_wp2_with fail
  refine (markTraceC _ _ _ _ _ _ _ _ _ _ _ _ _ _ _ _ _ _ _ _ _ w3.heap.size d18 d19 w4.heap.size _ _ o20 o21 o22 (by omega) (by omega) (by omega) (by omega) (by omega) (by omega) (by omega) (by omega) (by omega)).mono ?_
  rintro e w9 ⟨l9, hl9, rfl, m9⟩
  have M9 := M8.andR m9 (.inl (by omega))
  have z9 := m9.size
  replace k0_0 := m9.cellAtR k0_0 (by omega)
  replace k0_1 := m9.cellAtR k0_1 (by omega)
  replace k0_2 := m9.cellAtR k0_2 (by omega)
  replace k0_3 := m9.cellAtR k0_3 (by omega)
  replace k0_4 := m9.cellAtR k0_4 (by omega)
  replace k0_5 := m9.cellAtR k0_5 (by omega)
  replace k0_6 := m9.cellAtR k0_6 (by omega)
  replace k0_7 := m9.cellAtR k0_7 (by omega)
  replace k0_8 := m9.cellAtR k0_8 (by omega)
  replace k0_9 := m9.cellAtR k0_9 (by omega)
  replace k0_10 := m9.cellAtR k0_10 (by omega)
  replace k0_11 := m9.cellAtR k0_11 (by omega)
  replace xx_0 := m9.cellAtR xx_0 (by omega)
  replace xx_1 := m9.cellAtR xx_1 (by omega)
  replace xx_2 := m9.cellAtR xx_2 (by omega)
  replace xx_3 := m9.cellAtR xx_3 (by omega)
  replace xx_4 := m9.cellAtR xx_4 (by omega)
  replace xx_5 := m9.cellAtR xx_5 (by omega)
  replace xx_6 := m9.cellAtR xx_6 (by omega)
  replace xx_7 := m9.cellAtR xx_7 (by omega)
  replace xx_8 := m9.cellAtR xx_8 (by omega)
  replace xx_9 := m9.cellAtR xx_9 (by omega)
  replace xx_10 := m9.cellAtR xx_10 (by omega)
  replace xx_11 := m9.cellAtR xx_11 (by omega)
  replace ow0 := ow0.mk m9 (by omega) (by omega)
  replace og0 := og0.mk m9 (by omega) (by omega)
  go_wp2_with fail
  refine (eqInt _ _ _ _ _ _ _ _ _ (hasR_int.1 og0.has) (hasR_int.1 ow0.has) hbw0).mono ?_
  rintro e w10 ⟨rfl, mm10, hw10⟩
  have m10 : Mk0 w9 w10 := by rw [hw10]; exact Mk.drewN _ _
  clear hw10
  have M10 := M9.trans m10
  have z10 := m10.size
  replace k0_0 := m10.cellAt k0_0
  replace k0_1 := m10.cellAt k0_1
  replace k0_2 := m10.cellAt k0_2
  replace k0_3 := m10.cellAt k0_3
  replace k0_4 := m10.cellAt k0_4
  replace k0_5 := m10.cellAt k0_5
  replace k0_6 := m10.cellAt k0_6
  replace k0_7 := m10.cellAt k0_7
  replace k0_8 := m10.cellAt k0_8
  replace k0_9 := m10.cellAt k0_9
  replace k0_10 := m10.cellAt k0_10
  replace k0_11 := m10.cellAt k0_11
  replace xx_0 := m10.cellAt xx_0
  replace xx_1 := m10.cellAt xx_1
  replace xx_2 := m10.cellAt xx_2
  replace xx_3 := m10.cellAt xx_3
  replace xx_4 := m10.cellAt xx_4
  replace xx_5 := m10.cellAt xx_5
  replace xx_6 := m10.cellAt xx_6
  replace xx_7 := m10.cellAt xx_7
  replace xx_8 := m10.cellAt xx_8
  replace xx_9 := m10.cellAt xx_9
  replace xx_10 := m10.cellAt xx_10
  replace xx_11 := m10.cellAt xx_11
  replace ow0 := ow0.mk m10 (by omega) (.inr (.inr (Nat.le_refl _)))
  replace og0 := og0.mk m10 (by omega) (.inr (.inr (Nat.le_refl _)))
  go_wp2_with fail
  refine (markInt _ _ _ w5.heap.size _ _ _ (og0.int (by omega)) hbw0 (by omega) (by omega)).mono ?_
  rintro e w11 ⟨rfl, oo11, gg11⟩
  have m11 : Mk w5.heap.size w6.heap.size w10 w11 := Mk.of_grown gg11 og0.row
  replace og0 := Own.toR_far og0 oo11
  clear oo11 gg11
  have M11 := M10.andR m11 (.inl (by omega))
  have z11 := m11.size
  replace k0_0 := m11.cellAtR k0_0 (by omega)
  replace k0_1 := m11.cellAtR k0_1 (by omega)
  replace k0_2 := m11.cellAtR k0_2 (by omega)
  replace k0_3 := m11.cellAtR k0_3 (by omega)
  replace k0_4 := m11.cellAtR k0_4 (by omega)
  replace k0_5 := m11.cellAtR k0_5 (by omega)
  replace k0_6 := m11.cellAtR k0_6 (by omega)
  replace k0_7 := m11.cellAtR k0_7 (by omega)
  replace k0_8 := m11.cellAtR k0_8 (by omega)
  replace k0_9 := m11.cellAtR k0_9 (by omega)
  replace k0_10 := m11.cellAtR k0_10 (by omega)
  replace k0_11 := m11.cellAtR k0_11 (by omega)
  replace xx_0 := m11.cellAtR xx_0 (by omega)
  replace xx_1 := m11.cellAtR xx_1 (by omega)
  replace xx_2 := m11.cellAtR xx_2 (by omega)
  replace xx_3 := m11.cellAtR xx_3 (by omega)
  replace xx_4 := m11.cellAtR xx_4 (by omega)
  replace xx_5 := m11.cellAtR xx_5 (by omega)
  replace xx_6 := m11.cellAtR xx_6 (by omega)
  replace xx_7 := m11.cellAtR xx_7 (by omega)
  replace xx_8 := m11.cellAtR xx_8 (by omega)
  replace xx_9 := m11.cellAtR xx_9 (by omega)
  replace xx_10 := m11.cellAtR xx_10 (by omega)
  replace xx_11 := m11.cellAtR xx_11 (by omega)
  replace ow0 := ow0.mk m11 (by omega) (by omega)
  go_wp2_with fail
  refine (heldInt _ _ _ _ _ _ (hasR_int.1 og0.has) hbw0 (by omega) (by omega)).mono ?_
  rintro e w' ⟨rfl, rfl⟩
  go_wp2_with fail
  refine (toTraceC _ _ _ _ _ _ _ _ _ _ _ _ _ _ _ _ _ _ _ _ _ w.heap.size _ (h0_1.mk M11 (Nat.le_refl _) (.inr (Nat.le_refl _))) (h0_5.mk M11 (Nat.le_refl _) (.inr (Nat.le_refl _))) (h0_11.mk M11 (Nat.le_refl _) (.inr (Nat.le_refl _))) (by omega) (by omega) (by omega) (by omega)).mono ?_
  rintro e w12 ⟨b36, b37, b38, d39, d40, rfl, o41, o42, o43, g44, g45, g46, m12⟩
  have M12 := M11.trans m12
  have z12 := m12.size
  replace k0_0 := m12.cellAt k0_0
  replace k0_1 := m12.cellAt k0_1
  replace k0_2 := m12.cellAt k0_2
  replace k0_3 := m12.cellAt k0_3
  replace k0_4 := m12.cellAt k0_4
  replace k0_5 := m12.cellAt k0_5
  replace k0_6 := m12.cellAt k0_6
  replace k0_7 := m12.cellAt k0_7
  replace k0_8 := m12.cellAt k0_8
  replace k0_9 := m12.cellAt k0_9
  replace k0_10 := m12.cellAt k0_10
  replace k0_11 := m12.cellAt k0_11
  replace xx_0 := m12.cellAt xx_0
  replace xx_1 := m12.cellAt xx_1
  replace xx_2 := m12.cellAt xx_2
  replace xx_3 := m12.cellAt xx_3
  replace xx_4 := m12.cellAt xx_4
  replace xx_5 := m12.cellAt xx_5
  replace xx_6 := m12.cellAt xx_6
  replace xx_7 := m12.cellAt xx_7
  replace xx_8 := m12.cellAt xx_8
  replace xx_9 := m12.cellAt xx_9
  replace xx_10 := m12.cellAt xx_10
  replace xx_11 := m12.cellAt xx_11
  replace ow0 := ow0.mk m12 (by omega) (.inr (.inr (Nat.le_refl _)))
  replace og0 := og0.mk m12 (by omega) (.inr (.inr (Nat.le_refl _)))
  have h47 := o41.has.mono (B' := w12.heap.size) (by omega)
  clear o41
  have h48 := o42.has.mono (B' := w12.heap.size) (by omega)
  clear o42
  have h49 := o43.has.mono (B' := w12.heap.size) (by omega)
  clear o43
  go_wp2_with fail
  refine (((implTrc a0_0 a0_2 a0_3 a0_4 a0_6 a0_7 a0_8 a0_9 a0_10 _ _ _ _ _ _ _ _ _ _ z0_1 _ h47 (by omega) (by omega)).mono fun _ _ hh => OutOwnI.r hh)).mono ?_
  rintro e w13 ⟨A13, N13, c13, rfl, hc13, oo13, bb13⟩
  have m13 := Mk.of_below bb13
  have oh0 := oo13.toR (hi := w13.heap.size) (Nat.le_refl _)
  clear oo13 bb13 hc13
  obtain rfl : N3 = N13 := ow0.1.symm.trans oh0.1
  have M13 := M12.trans m13
  have z13 := m13.size
  replace k0_0 := m13.cellAt k0_0
  replace k0_1 := m13.cellAt k0_1
  replace k0_2 := m13.cellAt k0_2
  replace k0_3 := m13.cellAt k0_3
  replace k0_4 := m13.cellAt k0_4
  replace k0_5 := m13.cellAt k0_5
  replace k0_6 := m13.cellAt k0_6
  replace k0_7 := m13.cellAt k0_7
  replace k0_8 := m13.cellAt k0_8
  replace k0_9 := m13.cellAt k0_9
  replace k0_10 := m13.cellAt k0_10
  replace k0_11 := m13.cellAt k0_11
  replace xx_0 := m13.cellAt xx_0
  replace xx_1 := m13.cellAt xx_1
  replace xx_2 := m13.cellAt xx_2
  replace xx_3 := m13.cellAt xx_3
  replace xx_4 := m13.cellAt xx_4
  replace xx_5 := m13.cellAt xx_5
  replace xx_6 := m13.cellAt xx_6
  replace xx_7 := m13.cellAt xx_7
  replace xx_8 := m13.cellAt xx_8
  replace xx_9 := m13.cellAt xx_9
  replace xx_10 := m13.cellAt xx_10
  replace xx_11 := m13.cellAt xx_11
  replace h47 := h47.mk m13 (by omega) (.inr (Nat.le_refl _))
  replace h48 := h48.mk m13 (by omega) (.inr (Nat.le_refl _))
  replace h49 := h49.mk m13 (by omega) (.inr (Nat.le_refl _))
  replace ow0 := ow0.mk m13 (by omega) (.inr (.inr (Nat.le_refl _)))
  replace og0 := og0.mk m13 (by omega) (.inr (.inr (Nat.le_refl _)))
  go_wp2_with fail
  refine (eqInt _ _ _ _ _ _ _ _ _ (hasR_int.1 oh0.has) (hasR_int.1 ow0.has) hbw0).mono ?_
  rintro e w14 ⟨rfl, mm14, hw14⟩
  have m14 : Mk0 w13 w14 := by rw [hw14]; exact Mk.drewN _ _
  clear hw14
  have M14 := M13.trans m14
  have z14 := m14.size
  replace k0_0 := m14.cellAt k0_0
  replace k0_1 := m14.cellAt k0_1
  replace k0_2 := m14.cellAt k0_2
  replace k0_3 := m14.cellAt k0_3
  replace k0_4 := m14.cellAt k0_4
  replace k0_5 := m14.cellAt k0_5
  replace k0_6 := m14.cellAt k0_6
  replace k0_7 := m14.cellAt k0_7
  replace k0_8 := m14.cellAt k0_8
  replace k0_9 := m14.cellAt k0_9
  replace k0_10 := m14.cellAt k0_10
  replace k0_11 := m14.cellAt k0_11
  replace xx_0 := m14.cellAt xx_0
  replace xx_1 := m14.cellAt xx_1
  replace xx_2 := m14.cellAt xx_2
  replace xx_3 := m14.cellAt xx_3
  replace xx_4 := m14.cellAt xx_4
  replace xx_5 := m14.cellAt xx_5
  replace xx_6 := m14.cellAt xx_6
  replace xx_7 := m14.cellAt xx_7
  replace xx_8 := m14.cellAt xx_8
  replace xx_9 := m14.cellAt xx_9
  replace xx_10 := m14.cellAt xx_10
  replace xx_11 := m14.cellAt xx_11
  replace ow0 := ow0.mk m14 (by omega) (.inr (.inr (Nat.le_refl _)))
  replace og0 := og0.mk m14 (by omega) (.inr (.inr (Nat.le_refl _)))
  replace oh0 := oh0.mk m14 (by omega) (.inr (.inr (Nat.le_refl _)))
  go_wp2_with fail
  refine (heldInt _ _ _ _ _ _ (hasR_int.1 og0.has) hbw0 (by omega) (by omega)).mono ?_
  rintro e w' ⟨rfl, rfl⟩
  go_wp2_with fail
  go_ret
  exact ⟨rfl, M14.below0⟩

set_option maxRecDepth 100000 in
theorem lifted (os : Os) (started : os.Started) (H : Type) (enc : TypeId × Value → H) :
    ReturnsInHanded {} Try.checked os 5 .any (Rows.fnExactTraceInterfacesSpec.pre6 enc Try.prog Try.f5 Rows.fnExactTraceInterfacesRow.domain false) (Rows.fnExactTraceInterfacesSpec.post enc Try.prog Try.f5 false true false false) := by
  refine returnsInHanded_of_change (C := Try.checked) own started (by kernel_rfl) Try.func5
    (ChangeSpec.witness6 (enc := enc) (C := Try.checked) false ⟨#[], #[.agg #[.int .i64 0, .slice none 0 0, .int .i64 0, .int .i64 0, .int .i64 0, .slice none 0 0, .int .i64 0, .int .i64 0, .int .i64 0, .int .i64 0, .int .i64 0, .slice none 0 0]], []⟩ 8 (by kernel_rfl) (by kernel_rfl) (by kernel_rfl) (by kernel_rfl)) ?_
  intro W base args ds gs before hval0 hW hcnd _
  have hval : ∀ (j : Nat) t v, Try.f5.params[j]? = some t → args[j]? = some v → Value.okWide Try.prog W .any base t v := hval0
  have hW' := hW
  obtain ⟨p, q, hA0, hV, rfl, hfz, hnd⟩ := hW
  have hA : DataW.TrodAll enc Try.prog W 0 (fun _ => true) true Try.f5.params.toList args.toList ds p := hA0
  rw [Try.params5] at hA hval
  obtain ⟨v0, vs0, d0, ds0, p0, q0, hargs, rfl, rfl, h0, r0⟩ := trodAll_cons hA
  obtain ⟨rfl, rfl, rfl⟩ := trodAll_nil r0
  obtain rfl : args = #[v0] := by cases args; simp_all
  obtain ⟨rfl, rfl⟩ := trodVars_none hV
  have k0 := h0
  have lt0 : ∀ x ∈ p0, x.block < W.heap.size := by obtain ⟨m, hm⟩ := k0; exact DataW.trod_lt m _ _ _ hm
  obtain ⟨cs0, rfl, hcs0, hl0⟩ := lf_open 12 Try.underlying54 (by kernel_rfl) (hval 0 54 v0 rfl rfl) h0
  have L0_0 := lf_field (a := 0) (b := 1) 0 _ Try.underlying54 rfl rfl (by kernel_rfl) (by decide) hl0
  obtain ⟨_, _, _, e0_0, q0_0⟩ := lf_leaf (o := 0) (by rw [hcs0]; decide) L0_0
  have L0_1 := lf_field (a := 1) (b := 1) 1 _ Try.underlying54 rfl rfl (by kernel_rfl) (by decide) hl0
  obtain ⟨_, _, _, e0_1, q0_1⟩ := lf_leaf (o := 1) (by rw [hcs0]; decide) L0_1
  have L0_2 := lf_field (a := 2) (b := 10) 2 _ Try.underlying54 rfl rfl (by kernel_rfl) (by decide) hl0
  have L0_2x0 := lf_field (a := 0) (b := 1) 0 _ Try.underlying52 rfl rfl (by kernel_rfl) (by decide) L0_2
  obtain ⟨_, _, _, e0_2, q0_2⟩ := lf_leaf (o := 2) (by rw [hcs0]; decide) L0_2x0
  have L0_2x1 := lf_field (a := 1) (b := 1) 1 _ Try.underlying52 rfl rfl (by kernel_rfl) (by decide) L0_2
  obtain ⟨_, _, _, e0_3, q0_3⟩ := lf_leaf (o := 3) (by rw [hcs0]; decide) L0_2x1
  have L0_2x2 := lf_field (a := 2) (b := 1) 2 _ Try.underlying52 rfl rfl (by kernel_rfl) (by decide) L0_2
  obtain ⟨_, _, _, e0_4, q0_4⟩ := lf_leaf (o := 4) (by rw [hcs0]; decide) L0_2x2
  have L0_2x3 := lf_field (a := 3) (b := 1) 3 _ Try.underlying52 rfl rfl (by kernel_rfl) (by decide) L0_2
  have L0_2x3x0 := lf_field (a := 0) (b := 1) 0 _ Try.underlying24 rfl rfl (by kernel_rfl) (by decide) L0_2x3
  obtain ⟨_, _, _, e0_5, q0_5⟩ := lf_leaf (o := 5) (by rw [hcs0]; decide) L0_2x3x0
  have L0_2x4 := lf_field (a := 4) (b := 1) 4 _ Try.underlying52 rfl rfl (by kernel_rfl) (by decide) L0_2
  obtain ⟨_, _, _, e0_6, q0_6⟩ := lf_leaf (o := 6) (by rw [hcs0]; decide) L0_2x4
  have L0_2x5 := lf_field (a := 5) (b := 1) 5 _ Try.underlying52 rfl rfl (by kernel_rfl) (by decide) L0_2
  obtain ⟨_, _, _, e0_7, q0_7⟩ := lf_leaf (o := 7) (by rw [hcs0]; decide) L0_2x5
  have L0_2x6 := lf_field (a := 6) (b := 1) 6 _ Try.underlying52 rfl rfl (by kernel_rfl) (by decide) L0_2
  obtain ⟨_, _, _, e0_8, q0_8⟩ := lf_leaf (o := 8) (by rw [hcs0]; decide) L0_2x6
  have L0_2x7 := lf_field (a := 7) (b := 1) 7 _ Try.underlying52 rfl rfl (by kernel_rfl) (by decide) L0_2
  obtain ⟨_, _, _, e0_9, q0_9⟩ := lf_leaf (o := 9) (by rw [hcs0]; decide) L0_2x7
  have L0_2x8 := lf_field (a := 8) (b := 1) 8 _ Try.underlying52 rfl rfl (by kernel_rfl) (by decide) L0_2
  obtain ⟨_, _, _, e0_10, q0_10⟩ := lf_leaf (o := 10) (by rw [hcs0]; decide) L0_2x8
  have L0_2x9 := lf_field (a := 9) (b := 1) 9 _ Try.underlying52 rfl rfl (by kernel_rfl) (by decide) L0_2
  obtain ⟨_, _, _, e0_11, q0_11⟩ := lf_leaf (o := 11) (by rw [hcs0]; decide) L0_2x9
  obtain ⟨a0_0, rfl, w0_0⟩ := one_int Try.underlying3 q0_0
  obtain ⟨a0_1, n0_1, c0_1, z0_1, rfl, m0_1, h0_1, f0_1⟩ := openStepS q0_1
  obtain ⟨a0_2, rfl, w0_2⟩ := one_int Try.underlying3 q0_2
  obtain ⟨a0_3, rfl, w0_3⟩ := one_int Try.underlying3 q0_3
  obtain ⟨a0_4, rfl, w0_4⟩ := one_int Try.underlying3 q0_4
  obtain ⟨a0_5, n0_5, c0_5, z0_5, rfl, m0_5, h0_5, f0_5⟩ := openPathPartS q0_5
  obtain ⟨a0_6, rfl, w0_6⟩ := one_int Try.underlying3 q0_6
  obtain ⟨a0_7, rfl, w0_7⟩ := one_int Try.underlying3 q0_7
  obtain ⟨a0_8, rfl, w0_8⟩ := one_int Try.underlying3 q0_8
  obtain ⟨a0_9, rfl, w0_9⟩ := one_int Try.underlying3 q0_9
  obtain ⟨a0_10, rfl, w0_10⟩ := one_int Try.underlying3 q0_10
  obtain ⟨a0_11, n0_11, c0_11, z0_11, rfl, m0_11, h0_11, f0_11⟩ := openByteS q0_11
  obtain rfl : cs0 = #[.int .i64 a0_0, .slice a0_1 n0_1 c0_1, .int .i64 a0_2, .int .i64 a0_3, .int .i64 a0_4, .slice a0_5 n0_5 c0_5, .int .i64 a0_6, .int .i64 a0_7, .int .i64 a0_8, .int .i64 a0_9, .int .i64 a0_10, .slice a0_11 n0_11 c0_11] := arr_of [.int .i64 a0_0, .slice a0_1 n0_1 c0_1, .int .i64 a0_2, .int .i64 a0_3, .int .i64 a0_4, .slice a0_5 n0_5 c0_5, .int .i64 a0_6, .int .i64 a0_7, .int .i64 a0_8, .int .i64 a0_9, .int .i64 a0_10, .slice a0_11 n0_11 c0_11] hcs0 (fun j hj => by match j, hj with | 0, _ => exact e0_0 | 1, _ => exact e0_1 | 2, _ => exact e0_2 | 3, _ => exact e0_3 | 4, _ => exact e0_4 | 5, _ => exact e0_5 | 6, _ => exact e0_6 | 7, _ => exact e0_7 | 8, _ => exact e0_8 | 9, _ => exact e0_9 | 10, _ => exact e0_10 | 11, _ => exact e0_11)
  clear hA0 hval0
  refine (walk a0_0 a0_1 n0_1 c0_1 z0_1 a0_2 a0_3 a0_4 a0_5 n0_5 c0_5 z0_5 a0_6 a0_7 a0_8 a0_9 a0_10 a0_11 n0_11 c0_11 z0_11 W w0_0 h0_1 m0_1 f0_1 w0_2 w0_3 w0_4 h0_5 m0_5 f0_5 w0_6 w0_7 w0_8 w0_9 w0_10 h0_11 m0_11 f0_11).mono fun e W' ⟨he, bel⟩ => ?_
  subst he
  exact ⟨_, rfl, _, _, _, [], _, [], hW', trodAll_mk1 (shut_bool Try.underlying4 _), (trodAll_cons_mk (Below.trod laidOut (by kernel_rfl) (of_decide_eq_true (by kernel_rfl)) k0 bel lt0) trodAll_mk0), rfl, bel.frame _, fun h => by cases h⟩

theorem over : Rows.fnExactTraceInterfacesRow.holds Try.pinned (OpenSpec.ofChange Rows.fnExactTraceInterfacesSpec) :=
  OpenClaim.holds_of_wide 5 Try.f5 rfl rfl rfl rfl rfl rfl rfl ⟨rfl, rfl, rfl, rfl, rfl⟩ rfl rfl rfl rfl rfl (by kernel_rfl) Try.func5 (by kernel_rfl)
    (of_decide_eq_true (by kernel_rfl)) (by unfold Func.isWrapper; first | (rw [if_pos (by decide +kernel)]; kernel_rfl) | (rw [if_neg (by decide +kernel)]; exact ⟨rfl, rfl⟩))
    (fun os started H enc _ => lifted os started H enc)

theorem proved : Rows.FnExactTraceInterfacesSaid := over
#print axioms proved
end Go.Proofs.Ytkmofhpipcodbaa.fnExactTraceInterfaces
