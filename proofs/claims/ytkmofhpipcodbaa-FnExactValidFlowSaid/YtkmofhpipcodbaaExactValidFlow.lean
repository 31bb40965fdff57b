
/- For every flow, the law on ValidFlow returns true; no further condition. -/
import Derived.Test.YtkmofhpipcodbaaRows
import Derived.WalkKit
import Derived.ProofKit
import Derived.OpenShut
import Derived.ShutString
import Derived.ChangeOld
import Derived.Below
import Derived.Test.YtkmofhpipcodbaaOMessage
import Derived.Test.YtkmofhpipcodbaaOPath
import Derived.Test.YtkmofhpipcodbaaORevocation
import Derived.Test.YtkmofhpipcodbaaZRevocation
import Derived.Test.YtkmofhpipcodbaaStruct
import Derived.Deep.RegionHeld3
import Derived.Test.YtkmofhpipcodbaaVFl
import Derived.Test.YtkmofhpipcodbaaVFlI
import Derived.Test.YtkmofhpipcodbaaCFlow
namespace Go.Proofs.Ytkmofhpipcodbaa.fnExactValidFlow
open Go.ChangeShapes Go.WideShapes Go.ChangeAt Go.RowKit
open Go.ChangeMaps (open_string shut_string)
set_option linter.unusedVariables false

theorem own : ownKnob Try.prog.godebug = none := by kernel_rfl
theorem laidOut : laidOutB Try.prog = true := by kernel_rfl

set_option maxRecDepth 100000 in
set_option maxHeartbeats 4000000 in
theorem walk (a0_0 : Int) (a0_1 : Int) (a0_2 : Int) (a0_3 : Int) (a0_4 : Option Addr) (n0_4 c0_4 : Nat) (z0_4 : List TMessage) (a0_5 : Option Addr) (n0_5 c0_5 : Nat) (z0_5 : List TPath) (a0_6 : Int) (a0_7 : Int) (a0_8 : Option Addr) (n0_8 c0_8 : Nat) (z0_8 : List TRevocation) (w : World) (w0_0 : (Lit.int .i64 a0_0).wf = true) (w0_1 : (Lit.int .i64 a0_1).wf = true) (w0_2 : (Lit.int .i64 a0_2).wf = true) (w0_3 : (Lit.int .i64 a0_3).wf = true) (h0_4 : HasMessage w w.heap.size a0_4 n0_4 z0_4) (m0_4 : n0_4 ≤ 9223372036854775807) (f0_4 : ∀ x ∈ z0_4, TMessage.fits x) (h0_5 : HasPath w w.heap.size a0_5 n0_5 z0_5) (m0_5 : n0_5 ≤ 9223372036854775807) (f0_5 : ∀ x ∈ z0_5, TPath.fits x) (w0_6 : (Lit.int .i64 a0_6).wf = true) (w0_7 : (Lit.int .i64 a0_7).wf = true) (h0_8 : HasRevocation w w.heap.size a0_8 n0_8 z0_8) (m0_8 : n0_8 ≤ 9223372036854775807) (f0_8 : ∀ x ∈ z0_8, TRevocation.fits x) :
    Calls Try.prog 7 #[.agg #[.int .i64 a0_0, .int .i64 a0_1, .int .i64 a0_2, .int .i64 a0_3, .slice a0_4 n0_4 c0_4, .slice a0_5 n0_5 c0_5, .int .i64 a0_6, .int .i64 a0_7, .slice a0_8 n0_8 c0_8]] w fun e w' => e = .returned (.bool true) ∧ Below w.heap.size w w' := by
  by_cases hbig0 : (1048576 : Int) < ((szMessage z0_4 n0_4 : Nat) : Int) + ((szPath z0_5 n0_5 : Nat) : Int) + (n0_8 : Int)
  · go_enter Try.func7, Try.ntmps7
    go_wp2_with fail
    have M0 : Mk0 w (w.alloc (Obj.cells #[Value.int .i64 a0_0, Value.int .i64 a0_1, Value.int .i64 a0_2, Value.int .i64 a0_3, Value.slice a0_4 n0_4 c0_4, Value.slice a0_5 n0_5 c0_5, Value.int .i64 a0_6, Value.int .i64 a0_7, Value.slice a0_8 n0_8 c0_8] 77)) := (Mk.alloc w _)
    have k0_0 : (w.alloc (Obj.cells #[Value.int .i64 a0_0, Value.int .i64 a0_1, Value.int .i64 a0_2, Value.int .i64 a0_3, Value.slice a0_4 n0_4 c0_4, Value.slice a0_5 n0_5 c0_5, Value.int .i64 a0_6, Value.int .i64 a0_7, Value.slice a0_8 n0_8 c0_8] 77)).cell? ⟨w.heap.size, 0, none⟩ = some (.int .i64 a0_0) := by simp [go_sem]
    have k0_1 : (w.alloc (Obj.cells #[Value.int .i64 a0_0, Value.int .i64 a0_1, Value.int .i64 a0_2, Value.int .i64 a0_3, Value.slice a0_4 n0_4 c0_4, Value.slice a0_5 n0_5 c0_5, Value.int .i64 a0_6, Value.int .i64 a0_7, Value.slice a0_8 n0_8 c0_8] 77)).cell? ⟨w.heap.size, 1, none⟩ = some (.int .i64 a0_1) := by simp [go_sem]
    have k0_2 : (w.alloc (Obj.cells #[Value.int .i64 a0_0, Value.int .i64 a0_1, Value.int .i64 a0_2, Value.int .i64 a0_3, Value.slice a0_4 n0_4 c0_4, Value.slice a0_5 n0_5 c0_5, Value.int .i64 a0_6, Value.int .i64 a0_7, Value.slice a0_8 n0_8 c0_8] 77)).cell? ⟨w.heap.size, 2, none⟩ = some (.int .i64 a0_2) := by simp [go_sem]
    have k0_3 : (w.alloc (Obj.cells #[Value.int .i64 a0_0, Value.int .i64 a0_1, Value.int .i64 a0_2, Value.int .i64 a0_3, Value.slice a0_4 n0_4 c0_4, Value.slice a0_5 n0_5 c0_5, Value.int .i64 a0_6, Value.int .i64 a0_7, Value.slice a0_8 n0_8 c0_8] 77)).cell? ⟨w.heap.size, 3, none⟩ = some (.int .i64 a0_3) := by simp [go_sem]
    have k0_4 : (w.alloc (Obj.cells #[Value.int .i64 a0_0, Value.int .i64 a0_1, Value.int .i64 a0_2, Value.int .i64 a0_3, Value.slice a0_4 n0_4 c0_4, Value.slice a0_5 n0_5 c0_5, Value.int .i64 a0_6, Value.int .i64 a0_7, Value.slice a0_8 n0_8 c0_8] 77)).cell? ⟨w.heap.size, 4, none⟩ = some (.slice a0_4 n0_4 c0_4) := by simp [go_sem]
    have k0_5 : (w.alloc (Obj.cells #[Value.int .i64 a0_0, Value.int .i64 a0_1, Value.int .i64 a0_2, Value.int .i64 a0_3, Value.slice a0_4 n0_4 c0_4, Value.slice a0_5 n0_5 c0_5, Value.int .i64 a0_6, Value.int .i64 a0_7, Value.slice a0_8 n0_8 c0_8] 77)).cell? ⟨w.heap.size, 5, none⟩ = some (.slice a0_5 n0_5 c0_5) := by simp [go_sem]
    have k0_6 : (w.alloc (Obj.cells #[Value.int .i64 a0_0, Value.int .i64 a0_1, Value.int .i64 a0_2, Value.int .i64 a0_3, Value.slice a0_4 n0_4 c0_4, Value.slice a0_5 n0_5 c0_5, Value.int .i64 a0_6, Value.int .i64 a0_7, Value.slice a0_8 n0_8 c0_8] 77)).cell? ⟨w.heap.size, 6, none⟩ = some (.int .i64 a0_6) := by simp [go_sem]
    have k0_7 : (w.alloc (Obj.cells #[Value.int .i64 a0_0, Value.int .i64 a0_1, Value.int .i64 a0_2, Value.int .i64 a0_3, Value.slice a0_4 n0_4 c0_4, Value.slice a0_5 n0_5 c0_5, Value.int .i64 a0_6, Value.int .i64 a0_7, Value.slice a0_8 n0_8 c0_8] 77)).cell? ⟨w.heap.size, 7, none⟩ = some (.int .i64 a0_7) := by simp [go_sem]
    have k0_8 : (w.alloc (Obj.cells #[Value.int .i64 a0_0, Value.int .i64 a0_1, Value.int .i64 a0_2, Value.int .i64 a0_3, Value.slice a0_4 n0_4 c0_4, Value.slice a0_5 n0_5 c0_5, Value.int .i64 a0_6, Value.int .i64 a0_7, Value.slice a0_8 n0_8 c0_8] 77)).cell? ⟨w.heap.size, 8, none⟩ = some (.slice a0_8 n0_8 c0_8) := by simp [go_sem]
    refine (szFlowB _ _ _ _ _ _ _ _ _ _ _ _ _ _ _ z0_4 z0_5 w.heap.size _ _ (h0_4.mk M0 (Nat.le_refl _) (.inr (Nat.le_refl _))) (h0_5.mk M0 (Nat.le_refl _) (.inr (Nat.le_refl _))) M0.size (by omega) (by omega) (by omega) m0_4 m0_5 m0_8).mono ?_
    rintro e w1 ⟨rfl, m1⟩
    go_wp2_with fail
    go_ret
    exact ⟨rfl, (M0.trans m1).below0⟩
  have hn0 : ((szMessage z0_4 n0_4 : Nat) : Int) + ((szPath z0_5 n0_5 : Nat) : Int) + (n0_8 : Int) ≤ (1048576 : Int) := by omega
  clear hbig0
  go_enter Try.func7, Try.ntmps7
  go_wp2_with fail
  have M0 : Mk0 w (w.alloc (Obj.cells #[Value.int .i64 a0_0, Value.int .i64 a0_1, Value.int .i64 a0_2, Value.int .i64 a0_3, Value.slice a0_4 n0_4 c0_4, Value.slice a0_5 n0_5 c0_5, Value.int .i64 a0_6, Value.int .i64 a0_7, Value.slice a0_8 n0_8 c0_8] 77)) := (Mk.alloc w _)
  have k0_0 : (w.alloc (Obj.cells #[Value.int .i64 a0_0, Value.int .i64 a0_1, Value.int .i64 a0_2, Value.int .i64 a0_3, Value.slice a0_4 n0_4 c0_4, Value.slice a0_5 n0_5 c0_5, Value.int .i64 a0_6, Value.int .i64 a0_7, Value.slice a0_8 n0_8 c0_8] 77)).cell? ⟨w.heap.size, 0, none⟩ = some (.int .i64 a0_0) := by simp [go_sem]
  have k0_1 : (w.alloc (Obj.cells #[Value.int .i64 a0_0, Value.int .i64 a0_1, Value.int .i64 a0_2, Value.int .i64 a0_3, Value.slice a0_4 n0_4 c0_4, Value.slice a0_5 n0_5 c0_5, Value.int .i64 a0_6, Value.int .i64 a0_7, Value.slice a0_8 n0_8 c0_8] 77)).cell? ⟨w.heap.size, 1, none⟩ = some (.int .i64 a0_1) := by simp [go_sem]
  have k0_2 : (w.alloc (Obj.cells #[Value.int .i64 a0_0, Value.int .i64 a0_1, Value.int .i64 a0_2, Value.int .i64 a0_3, Value.slice a0_4 n0_4 c0_4, Value.slice a0_5 n0_5 c0_5, Value.int .i64 a0_6, Value.int .i64 a0_7, Value.slice a0_8 n0_8 c0_8] 77)).cell? ⟨w.heap.size, 2, none⟩ = some (.int .i64 a0_2) := by simp [go_sem]
  have k0_3 : (w.alloc (Obj.cells #[Value.int .i64 a0_0, Value.int .i64 a0_1, Value.int .i64 a0_2, Value.int .i64 a0_3, Value.slice a0_4 n0_4 c0_4, Value.slice a0_5 n0_5 c0_5, Value.int .i64 a0_6, Value.int .i64 a0_7, Value.slice a0_8 n0_8 c0_8] 77)).cell? ⟨w.heap.size, 3, none⟩ = some (.int .i64 a0_3) := by simp [go_sem]
  have k0_4 : (w.alloc (Obj.cells #[Value.int .i64 a0_0, Value.int .i64 a0_1, Value.int .i64 a0_2, Value.int .i64 a0_3, Value.slice a0_4 n0_4 c0_4, Value.slice a0_5 n0_5 c0_5, Value.int .i64 a0_6, Value.int .i64 a0_7, Value.slice a0_8 n0_8 c0_8] 77)).cell? ⟨w.heap.size, 4, none⟩ = some (.slice a0_4 n0_4 c0_4) := by simp [go_sem]
  have k0_5 : (w.alloc (Obj.cells #[Value.int .i64 a0_0, Value.int .i64 a0_1, Value.int .i64 a0_2, Value.int .i64 a0_3, Value.slice a0_4 n0_4 c0_4, Value.slice a0_5 n0_5 c0_5, Value.int .i64 a0_6, Value.int .i64 a0_7, Value.slice a0_8 n0_8 c0_8] 77)).cell? ⟨w.heap.size, 5, none⟩ = some (.slice a0_5 n0_5 c0_5) := by simp [go_sem]
  have k0_6 : (w.alloc (Obj.cells #[Value.int .i64 a0_0, Value.int .i64 a0_1, Value.int .i64 a0_2, Value.int .i64 a0_3, Value.slice a0_4 n0_4 c0_4, Value.slice a0_5 n0_5 c0_5, Value.int .i64 a0_6, Value.int .i64 a0_7, Value.slice a0_8 n0_8 c0_8] 77)).cell? ⟨w.heap.size, 6, none⟩ = some (.int .i64 a0_6) := by simp [go_sem]
  have k0_7 : (w.alloc (Obj.cells #[Value.int .i64 a0_0, Value.int .i64 a0_1, Value.int .i64 a0_2, Value.int .i64 a0_3, Value.slice a0_4 n0_4 c0_4, Value.slice a0_5 n0_5 c0_5, Value.int .i64 a0_6, Value.int .i64 a0_7, Value.slice a0_8 n0_8 c0_8] 77)).cell? ⟨w.heap.size, 7, none⟩ = some (.int .i64 a0_7) := by simp [go_sem]
  have k0_8 : (w.alloc (Obj.cells #[Value.int .i64 a0_0, Value.int .i64 a0_1, Value.int .i64 a0_2, Value.int .i64 a0_3, Value.slice a0_4 n0_4 c0_4, Value.slice a0_5 n0_5 c0_5, Value.int .i64 a0_6, Value.int .i64 a0_7, Value.slice a0_8 n0_8 c0_8] 77)).cell? ⟨w.heap.size, 8, none⟩ = some (.slice a0_8 n0_8 c0_8) := by simp [go_sem]
  refine (szFlowC _ _ _ _ _ _ _ _ _ _ _ _ _ _ _ z0_4 z0_5 w.heap.size _ _ (h0_4.mk M0 (Nat.le_refl _) (.inr (Nat.le_refl _))) (h0_5.mk M0 (Nat.le_refl _) (.inr (Nat.le_refl _))) M0.size (by omega) (by omega) (by omega)).mono ?_
  rintro e w1 ⟨l1, hl1, rfl, m1⟩
  have M1 := M0.trans m1
  replace k0_0 := m1.cellAt k0_0
  replace k0_1 := m1.cellAt k0_1
  replace k0_2 := m1.cellAt k0_2
  replace k0_3 := m1.cellAt k0_3
  replace k0_4 := m1.cellAt k0_4
  replace k0_5 := m1.cellAt k0_5
  replace k0_6 := m1.cellAt k0_6
  replace k0_7 := m1.cellAt k0_7
  replace k0_8 := m1.cellAt k0_8
  have z1 := m1.size
  simp only [World.size_alloc] at z1
  go_wp2_with fail
  refine (toFlowC _ _ _ _ _ _ _ _ _ _ _ _ _ _ _ _ _ _ w.heap.size _ (h0_4.mk M1 (Nat.le_refl _) (.inr (Nat.le_refl _))) (h0_5.mk M1 (Nat.le_refl _) (.inr (Nat.le_refl _))) (h0_8.mk M1 (Nat.le_refl _) (.inr (Nat.le_refl _))) (by omega) (by omega) (by omega) (by omega)).mono ?_
  rintro e w2 ⟨b1, b2, b3, d4, d5, rfl, o6, o7, o8, g9, g10, g11, m2⟩
  have M2 := M1.trans m2
  have z2 := m2.size
  replace k0_0 := m2.cellAt k0_0
  replace k0_1 := m2.cellAt k0_1
  replace k0_2 := m2.cellAt k0_2
  replace k0_3 := m2.cellAt k0_3
  replace k0_4 := m2.cellAt k0_4
  replace k0_5 := m2.cellAt k0_5
  replace k0_6 := m2.cellAt k0_6
  replace k0_7 := m2.cellAt k0_7
  replace k0_8 := m2.cellAt k0_8
  have h12 := o6.has.mono (B' := w2.heap.size) (by omega)
  clear o6
  have h13 := o7.has.mono (B' := w2.heap.size) (by omega)
  clear o7
  have h14 := o8.has.mono (B' := w2.heap.size) (by omega)
  clear o8
  go_wp2_with fail
  refine (specVFl a0_0 a0_1 a0_2 a0_3 a0_6 a0_7 _ n0_4 _ z0_4 _ n0_5 _ _ n0_8 _ _ z0_8 _ h12 h14 (by omega) (by omega) (Nat.le_trans (szPath_n z0_5 n0_5) (by omega)) (by omega)).mono ?_
  rintro e w3 ⟨rfl, m3⟩
  have M3 := M2.trans m3
  have z3 := m3.size
  replace k0_0 := m3.cellAt k0_0
  replace k0_1 := m3.cellAt k0_1
  replace k0_2 := m3.cellAt k0_2
  replace k0_3 := m3.cellAt k0_3
  replace k0_4 := m3.cellAt k0_4
  replace k0_5 := m3.cellAt k0_5
  replace k0_6 := m3.cellAt k0_6
  replace k0_7 := m3.cellAt k0_7
  replace k0_8 := m3.cellAt k0_8
  replace h12 := h12.mk m3 (by omega) (.inr (Nat.le_refl _))
  replace h13 := h13.mk m3 (by omega) (.inr (Nat.le_refl _))
  replace h14 := h14.mk m3 (by omega) (.inr (Nat.le_refl _))
  go_wp2_with fail
  refine (toFlowC _ _ _ _ _ _ _ _ _ _ _ _ _ _ _ _ _ _ w.heap.size _ (h0_4.mk M3 (Nat.le_refl _) (.inr (Nat.le_refl _))) (h0_5.mk M3 (Nat.le_refl _) (.inr (Nat.le_refl _))) (h0_8.mk M3 (Nat.le_refl _) (.inr (Nat.le_refl _))) (by omega) (by omega) (by omega) (by omega)).mono ?_
  rintro e w4 ⟨b15, b16, b17, d18, d19, rfl, o20, o21, o22, g23, g24, g25, m4⟩
  have M4 := M3.trans m4
  have z4 := m4.size
  replace k0_0 := m4.cellAt k0_0
  replace k0_1 := m4.cellAt k0_1
  replace k0_2 := m4.cellAt k0_2
  replace k0_3 := m4.cellAt k0_3
  replace k0_4 := m4.cellAt k0_4
  replace k0_5 := m4.cellAt k0_5
  replace k0_6 := m4.cellAt k0_6
  replace k0_7 := m4.cellAt k0_7
  replace k0_8 := m4.cellAt k0_8
  have h26 := o20.has.mono (B' := w4.heap.size) (by omega)
  clear o20
  have h27 := o21.has.mono (B' := w4.heap.size) (by omega)
  clear o21
  have h28 := o22.has.mono (B' := w4.heap.size) (by omega)
  clear o22
  go_wp2_with fail
  have xx0_0 : (w4.alloc (Obj.cells #[Value.int .i64 a0_0, Value.int .i64 a0_1, Value.int .i64 a0_2, Value.int .i64 a0_3, Value.slice (some ⟨b15, 0, none⟩) n0_4 n0_4, Value.slice (some ⟨b16, 0, none⟩) n0_5 n0_5, Value.int .i64 a0_6, Value.int .i64 a0_7, Value.slice (some ⟨b17, 0, none⟩) n0_8 n0_8] 83)).cell? ⟨w4.heap.size, 0, none⟩ = some (.int .i64 a0_0) := by rw [World.cell?_alloc_at _ _ _ _ rfl]; rfl
  have xx0_1 : (w4.alloc (Obj.cells #[Value.int .i64 a0_0, Value.int .i64 a0_1, Value.int .i64 a0_2, Value.int .i64 a0_3, Value.slice (some ⟨b15, 0, none⟩) n0_4 n0_4, Value.slice (some ⟨b16, 0, none⟩) n0_5 n0_5, Value.int .i64 a0_6, Value.int .i64 a0_7, Value.slice (some ⟨b17, 0, none⟩) n0_8 n0_8] 83)).cell? ⟨w4.heap.size, 1, none⟩ = some (.int .i64 a0_1) := by rw [World.cell?_alloc_at _ _ _ _ rfl]; rfl
  have xx0_2 : (w4.alloc (Obj.cells #[Value.int .i64 a0_0, Value.int .i64 a0_1, Value.int .i64 a0_2, Value.int .i64 a0_3, Value.slice (some ⟨b15, 0, none⟩) n0_4 n0_4, Value.slice (some ⟨b16, 0, none⟩) n0_5 n0_5, Value.int .i64 a0_6, Value.int .i64 a0_7, Value.slice (some ⟨b17, 0, none⟩) n0_8 n0_8] 83)).cell? ⟨w4.heap.size, 2, none⟩ = some (.int .i64 a0_2) := by rw [World.cell?_alloc_at _ _ _ _ rfl]; rfl
  have xx0_3 : (w4.alloc (Obj.cells #[Value.int .i64 a0_0, Value.int .i64 a0_1, Value.int .i64 a0_2, Value.int .i64 a0_3, Value.slice (some ⟨b15, 0, none⟩) n0_4 n0_4, Value.slice (some ⟨b16, 0, none⟩) n0_5 n0_5, Value.int .i64 a0_6, Value.int .i64 a0_7, Value.slice (some ⟨b17, 0, none⟩) n0_8 n0_8] 83)).cell? ⟨w4.heap.size, 3, none⟩ = some (.int .i64 a0_3) := by rw [World.cell?_alloc_at _ _ _ _ rfl]; rfl
  have xx0_4 : (w4.alloc (Obj.cells #[Value.int .i64 a0_0, Value.int .i64 a0_1, Value.int .i64 a0_2, Value.int .i64 a0_3, Value.slice (some ⟨b15, 0, none⟩) n0_4 n0_4, Value.slice (some ⟨b16, 0, none⟩) n0_5 n0_5, Value.int .i64 a0_6, Value.int .i64 a0_7, Value.slice (some ⟨b17, 0, none⟩) n0_8 n0_8] 83)).cell? ⟨w4.heap.size, 4, none⟩ = some (.slice (some ⟨b15, 0, none⟩) n0_4 n0_4) := by rw [World.cell?_alloc_at _ _ _ _ rfl]; rfl
  have xx0_5 : (w4.alloc (Obj.cells #[Value.int .i64 a0_0, Value.int .i64 a0_1, Value.int .i64 a0_2, Value.int .i64 a0_3, Value.slice (some ⟨b15, 0, none⟩) n0_4 n0_4, Value.slice (some ⟨b16, 0, none⟩) n0_5 n0_5, Value.int .i64 a0_6, Value.int .i64 a0_7, Value.slice (some ⟨b17, 0, none⟩) n0_8 n0_8] 83)).cell? ⟨w4.heap.size, 5, none⟩ = some (.slice (some ⟨b16, 0, none⟩) n0_5 n0_5) := by rw [World.cell?_alloc_at _ _ _ _ rfl]; rfl
  have xx0_6 : (w4.alloc (Obj.cells #[Value.int .i64 a0_0, Value.int .i64 a0_1, Value.int .i64 a0_2, Value.int .i64 a0_3, Value.slice (some ⟨b15, 0, none⟩) n0_4 n0_4, Value.slice (some ⟨b16, 0, none⟩) n0_5 n0_5, Value.int .i64 a0_6, Value.int .i64 a0_7, Value.slice (some ⟨b17, 0, none⟩) n0_8 n0_8] 83)).cell? ⟨w4.heap.size, 6, none⟩ = some (.int .i64 a0_6) := by rw [World.cell?_alloc_at _ _ _ _ rfl]; rfl
  have xx0_7 : (w4.alloc (Obj.cells #[Value.int .i64 a0_0, Value.int .i64 a0_1, Value.int .i64 a0_2, Value.int .i64 a0_3, Value.slice (some ⟨b15, 0, none⟩) n0_4 n0_4, Value.slice (some ⟨b16, 0, none⟩) n0_5 n0_5, Value.int .i64 a0_6, Value.int .i64 a0_7, Value.slice (some ⟨b17, 0, none⟩) n0_8 n0_8] 83)).cell? ⟨w4.heap.size, 7, none⟩ = some (.int .i64 a0_7) := by rw [World.cell?_alloc_at _ _ _ _ rfl]; rfl
  have xx0_8 : (w4.alloc (Obj.cells #[Value.int .i64 a0_0, Value.int .i64 a0_1, Value.int .i64 a0_2, Value.int .i64 a0_3, Value.slice (some ⟨b15, 0, none⟩) n0_4 n0_4, Value.slice (some ⟨b16, 0, none⟩) n0_5 n0_5, Value.int .i64 a0_6, Value.int .i64 a0_7, Value.slice (some ⟨b17, 0, none⟩) n0_8 n0_8] 83)).cell? ⟨w4.heap.size, 8, none⟩ = some (.slice (some ⟨b17, 0, none⟩) n0_8 n0_8) := by rw [World.cell?_alloc_at _ _ _ _ rfl]; rfl
  refine (implVFl a0_0 a0_1 a0_2 a0_3 a0_6 a0_7 _ n0_4 _ z0_4 _ n0_5 _ _ n0_8 _ _ z0_8 _ (h26.mk (Mk.alloc _ _) (by omega) (.inr (Nat.le_refl _))) (h28.mk (Mk.alloc _ _) (by omega) (.inr (Nat.le_refl _))) (by rw [World.size_alloc]; omega) (by omega) (Nat.le_trans (szPath_n z0_5 n0_5) (by omega)) (by omega)).mono ?_
  rintro e w5 ⟨rfl, m5⟩
  replace xx0_0 := m5.cellAt xx0_0
  replace xx0_1 := m5.cellAt xx0_1
  replace xx0_2 := m5.cellAt xx0_2
  replace xx0_3 := m5.cellAt xx0_3
  replace xx0_4 := m5.cellAt xx0_4
  replace xx0_5 := m5.cellAt xx0_5
  replace xx0_6 := m5.cellAt xx0_6
  replace xx0_7 := m5.cellAt xx0_7
  replace xx0_8 := m5.cellAt xx0_8
  replace m5 := (Mk.alloc w4 _).trans m5
  have M5 := M4.trans m5
  have z5 := m5.size
  replace k0_0 := m5.cellAt k0_0
  replace k0_1 := m5.cellAt k0_1
  replace k0_2 := m5.cellAt k0_2
  replace k0_3 := m5.cellAt k0_3
  replace k0_4 := m5.cellAt k0_4
  replace k0_5 := m5.cellAt k0_5
  replace k0_6 := m5.cellAt k0_6
  replace k0_7 := m5.cellAt k0_7
  replace k0_8 := m5.cellAt k0_8
  replace h26 := h26.mk m5 (by omega) (.inr (Nat.le_refl _))
  replace h27 := h27.mk m5 (by omega) (.inr (Nat.le_refl _))
  replace h28 := h28.mk m5 (by omega) (.inr (Nat.le_refl _))
  go_wp2_with fail
  have e29 : ∀ w', Mk0 w5 w' → HasMessage w' w4.heap.size (some ⟨b15, 0, none⟩) n0_4 z0_4 := fun w' m => h26.mk m (by omega) (.inr (Nat.le_refl _))
  have e30 : ∀ w', Mk0 w5 w' → HasPath w' w4.heap.size (some ⟨b16, 0, none⟩) n0_5 z0_5 := fun w' m => h27.mk m (by omega) (.inr (Nat.le_refl _))
  have e31 : ∀ w', Mk0 w5 w' → HasRevocation w' w4.heap.size (some ⟨b17, 0, none⟩) n0_8 z0_8 := fun w' m => h28.mk m (by omega) (.inr (Nat.le_refl _))
  have e32 : ∀ w', Mk0 w5 w' → w4.heap.size ≤ w'.heap.size := fun w' m => Nat.le_trans (by omega) m.size
  have e33 : ∀ w', Mk0 w5 w' → HasMessage w' w.heap.size a0_4 n0_4 z0_4 := fun w' m => h0_4.mk (M5.trans m) (Nat.le_refl _) (.inr (Nat.le_refl _))
  have e34 : ∀ w', Mk0 w5 w' → HasPath w' w.heap.size a0_5 n0_5 z0_5 := fun w' m => h0_5.mk (M5.trans m) (Nat.le_refl _) (.inr (Nat.le_refl _))
  have e35 : ∀ w', Mk0 w5 w' → HasRevocation w' w.heap.size a0_8 n0_8 z0_8 := fun w' m => h0_8.mk (M5.trans m) (Nat.le_refl _) (.inr (Nat.le_refl _))
  have hN0_4 : szMessage z0_4 n0_4 ≤ 1048576 := by omega
  have hN0_5 : szPath z0_5 n0_5 ≤ 1048576 := by omega
  have hN0_8 : n0_8 ≤ 1048576 := by omega
  go_region_held3 (fun w' => Mk0 w5 w' ∧ w'.cell? ⟨w.heap.size, 0, none⟩ = some (.int .i64 a0_0) ∧ w'.cell? ⟨w.heap.size, 1, none⟩ = some (.int .i64 a0_1) ∧ w'.cell? ⟨w.heap.size, 2, none⟩ = some (.int .i64 a0_2) ∧ w'.cell? ⟨w.heap.size, 3, none⟩ = some (.int .i64 a0_3) ∧ w'.cell? ⟨w.heap.size, 4, none⟩ = some (.slice a0_4 n0_4 c0_4) ∧ w'.cell? ⟨w.heap.size, 5, none⟩ = some (.slice a0_5 n0_5 c0_5) ∧ w'.cell? ⟨w.heap.size, 6, none⟩ = some (.int .i64 a0_6) ∧ w'.cell? ⟨w.heap.size, 7, none⟩ = some (.int .i64 a0_7) ∧ w'.cell? ⟨w.heap.size, 8, none⟩ = some (.slice a0_8 n0_8 c0_8) ∧ w'.cell? ⟨w4.heap.size, 0, none⟩ = some (.int .i64 a0_0) ∧ w'.cell? ⟨w4.heap.size, 1, none⟩ = some (.int .i64 a0_1) ∧ w'.cell? ⟨w4.heap.size, 2, none⟩ = some (.int .i64 a0_2) ∧ w'.cell? ⟨w4.heap.size, 3, none⟩ = some (.int .i64 a0_3) ∧ w'.cell? ⟨w4.heap.size, 4, none⟩ = some (.slice (some ⟨b15, 0, none⟩) n0_4 n0_4) ∧ w'.cell? ⟨w4.heap.size, 5, none⟩ = some (.slice (some ⟨b16, 0, none⟩) n0_5 n0_5) ∧ w'.cell? ⟨w4.heap.size, 6, none⟩ = some (.int .i64 a0_6) ∧ w'.cell? ⟨w4.heap.size, 7, none⟩ = some (.int .i64 a0_7) ∧ w'.cell? ⟨w4.heap.size, 8, none⟩ = some (.slice (some ⟨b17, 0, none⟩) n0_8 n0_8)) (first | exact ⟨Mk.drew1 _, k0_0, k0_1, k0_2, k0_3, k0_4, k0_5, k0_6, k0_7, k0_8, xx0_0, xx0_1, xx0_2, xx0_3, xx0_4, xx0_5, xx0_6, xx0_7, xx0_8⟩ | (obtain ⟨s0, s1, s2, s3, s4, s5, s6, s7, s8, s9, s10, s11, s12, s13, s14, s15, s16, s17, s18⟩ := ‹Mk0 w5 _ ∧ _›; exact ⟨s0.trans mm, mm.cellAt s1, mm.cellAt s2, mm.cellAt s3, mm.cellAt s4, mm.cellAt s5, mm.cellAt s6, mm.cellAt s7, mm.cellAt s8, mm.cellAt s9, mm.cellAt s10, mm.cellAt s11, mm.cellAt s12, mm.cellAt s13, mm.cellAt s14, mm.cellAt s15, mm.cellAt s16, mm.cellAt s17, mm.cellAt s18⟩)) (first | (go_at_call 36; refine (toFlowC _ _ _ _ _ _ _ _ _ _ _ _ _ _ _ _ _ _ w.heap.size _ (e33 _ (‹Mk0 w5 _ ∧ _›).1) (e34 _ (‹Mk0 w5 _ ∧ _›).1) (e35 _ (‹Mk0 w5 _ ∧ _›).1) (M5.trans (‹Mk0 w5 _ ∧ _›).1).size hN0_4 hN0_5 hN0_8).mono ?_; rintro e wa ⟨bb0, bb1, bb2, dd0, dd1, rfl, oo0, oo1, oo2, gg0, gg1, gg2, mm⟩) | (go_at_call 38; refine (eqFlowC _ _ _ _ _ _ _ _ _ _ _ _ _ _ _ _ _ _ _ _ _ _ _ _ _ _ _ (e29 _ (‹Mk0 w5 _ ∧ _›).1) (e30 _ (‹Mk0 w5 _ ∧ _›).1) (e31 _ (‹Mk0 w5 _ ∧ _›).1) (oo0.has.mono (Nat.le_trans gg1 gg2)) (oo1.has.mono gg2) (oo2.has.mono (Nat.le_refl _)) (e32 _ (‹Mk0 w5 _ ∧ _›).1) (Nat.le_refl _) hN0_4 hN0_5 hN0_8).mono ?_; rintro e wb6 ⟨rfl, mm⟩))
  obtain ⟨m6, k0_0, k0_1, k0_2, k0_3, k0_4, k0_5, k0_6, k0_7, k0_8, xx0_0, xx0_1, xx0_2, xx0_3, xx0_4, xx0_5, xx0_6, xx0_7, xx0_8⟩ := ‹Mk0 w5 _ ∧ _›
  clear e29 e30 e31 e32 e33 e34 e35 hN0_4 hN0_5 hN0_8
  refine ‹∀ (a : Act) (w : World), _ → _› _ _ ?_
  have M6 := M5.trans m6
  have z6 := m6.size
  replace h26 := h26.mk m6 (by omega) (.inr (Nat.le_refl _))
  replace h27 := h27.mk m6 (by omega) (.inr (Nat.le_refl _))
  replace h28 := h28.mk m6 (by omega) (.inr (Nat.le_refl _))
  go_wp2_with fail
  go_ret
  exact ⟨rfl, M6.below0⟩

set_option maxRecDepth 100000 in
theorem lifted (os : Os) (started : os.Started) (H : Type) (enc : TypeId × Value → H) :
    ReturnsInHanded {} Try.checked os 7 .any (Rows.fnExactValidFlowSpec.pre6 enc Try.prog Try.f7 Rows.fnExactValidFlowRow.domain false) (Rows.fnExactValidFlowSpec.post enc Try.prog Try.f7 false true false false) := by
  refine returnsInHanded_of_change (C := Try.checked) own started (by kernel_rfl) Try.func7
    (ChangeSpec.witness6 (enc := enc) (C := Try.checked) false ⟨#[], #[.agg #[.int .i64 0, .int .i64 0, .int .i64 0, .int .i64 0, .slice none 0 0, .slice none 0 0, .int .i64 0, .int .i64 0, .slice none 0 0]], []⟩ 8 (by kernel_rfl) (by kernel_rfl) (by kernel_rfl) (by kernel_rfl)) ?_
  intro W base args ds gs before hval0 hW hcnd _
  have hval : ∀ (j : Nat) t v, Try.f7.params[j]? = some t → args[j]? = some v → Value.okWide Try.prog W .any base t v := hval0
  have hW' := hW
  obtain ⟨p, q, hA0, hV, rfl, hfz, hnd⟩ := hW
  have hA : DataW.TrodAll enc Try.prog W 0 (fun _ => true) true Try.f7.params.toList args.toList ds p := hA0
  rw [Try.params7] at hA hval
  obtain ⟨v0, vs0, d0, ds0, p0, q0, hargs, rfl, rfl, h0, r0⟩ := trodAll_cons hA
  obtain ⟨rfl, rfl, rfl⟩ := trodAll_nil r0
  obtain rfl : args = #[v0] := by cases args; simp_all
  obtain ⟨rfl, rfl⟩ := trodVars_none hV
  have k0 := h0
  have lt0 : ∀ x ∈ p0, x.block < W.heap.size := by obtain ⟨m, hm⟩ := k0; exact DataW.trod_lt m _ _ _ hm
  obtain ⟨cs0, rfl, hcs0, hf0⟩ := open_agg Try.underlying77 (by kernel_rfl) (by kernel_rfl) (hval 0 77 v0 rfl rfl) h0
  obtain ⟨_, _, _, e0_0, q0_0⟩ := hf0 0 _ rfl
  obtain ⟨a0_0, rfl, w0_0⟩ := one_int Try.underlying3 q0_0
  obtain ⟨_, _, _, e0_1, q0_1⟩ := hf0 1 _ rfl
  obtain ⟨a0_1, rfl, w0_1⟩ := one_int Try.underlying3 q0_1
  obtain ⟨_, _, _, e0_2, q0_2⟩ := hf0 2 _ rfl
  obtain ⟨a0_2, rfl, w0_2⟩ := one_int Try.underlying3 q0_2
  obtain ⟨_, _, _, e0_3, q0_3⟩ := hf0 3 _ rfl
  obtain ⟨a0_3, rfl, w0_3⟩ := one_int Try.underlying3 q0_3
  obtain ⟨_, _, _, e0_4, q0_4⟩ := hf0 4 _ rfl
  obtain ⟨a0_4, n0_4, c0_4, z0_4, rfl, m0_4, h0_4, f0_4⟩ := openMessageS q0_4
  obtain ⟨_, _, _, e0_5, q0_5⟩ := hf0 5 _ rfl
  obtain ⟨a0_5, n0_5, c0_5, z0_5, rfl, m0_5, h0_5, f0_5⟩ := openPathS q0_5
  obtain ⟨_, _, _, e0_6, q0_6⟩ := hf0 6 _ rfl
  obtain ⟨a0_6, rfl, w0_6⟩ := one_int Try.underlying3 q0_6
  obtain ⟨_, _, _, e0_7, q0_7⟩ := hf0 7 _ rfl
  obtain ⟨a0_7, rfl, w0_7⟩ := one_int Try.underlying3 q0_7
  obtain ⟨_, _, _, e0_8, q0_8⟩ := hf0 8 _ rfl
  obtain ⟨a0_8, n0_8, c0_8, z0_8, rfl, m0_8, h0_8, f0_8⟩ := openRevocationS q0_8
  obtain rfl : cs0 = #[.int .i64 a0_0, .int .i64 a0_1, .int .i64 a0_2, .int .i64 a0_3, .slice a0_4 n0_4 c0_4, .slice a0_5 n0_5 c0_5, .int .i64 a0_6, .int .i64 a0_7, .slice a0_8 n0_8 c0_8] := arr_of [.int .i64 a0_0, .int .i64 a0_1, .int .i64 a0_2, .int .i64 a0_3, .slice a0_4 n0_4 c0_4, .slice a0_5 n0_5 c0_5, .int .i64 a0_6, .int .i64 a0_7, .slice a0_8 n0_8 c0_8] hcs0 (fun j hj => by match j, hj with | 0, _ => exact e0_0 | 1, _ => exact e0_1 | 2, _ => exact e0_2 | 3, _ => exact e0_3 | 4, _ => exact e0_4 | 5, _ => exact e0_5 | 6, _ => exact e0_6 | 7, _ => exact e0_7 | 8, _ => exact e0_8)
  clear hA0 hval0
  refine (walk a0_0 a0_1 a0_2 a0_3 a0_4 n0_4 c0_4 z0_4 a0_5 n0_5 c0_5 z0_5 a0_6 a0_7 a0_8 n0_8 c0_8 z0_8 W w0_0 w0_1 w0_2 w0_3 h0_4 m0_4 f0_4 h0_5 m0_5 f0_5 w0_6 w0_7 h0_8 m0_8 f0_8).mono fun e W' ⟨he, bel⟩ => ?_
  subst he
  exact ⟨_, rfl, _, _, _, [], _, [], hW', trodAll_mk1 (shut_bool Try.underlying4 _), (trodAll_cons_mk (Below.trod laidOut (by kernel_rfl) (of_decide_eq_true (by kernel_rfl)) k0 bel lt0) trodAll_mk0), rfl, bel.frame _, fun h => by cases h⟩

theorem over : Rows.fnExactValidFlowRow.holds Try.pinned (OpenSpec.ofChange Rows.fnExactValidFlowSpec) :=
  OpenClaim.holds_of_wide 7 Try.f7 rfl rfl rfl rfl rfl rfl rfl ⟨rfl, rfl, rfl, rfl, rfl⟩ rfl rfl rfl rfl rfl (by kernel_rfl) Try.func7 (by kernel_rfl)
    (of_decide_eq_true (by kernel_rfl)) (by unfold Func.isWrapper; first | (rw [if_pos (by decide +kernel)]; kernel_rfl) | (rw [if_neg (by decide +kernel)]; exact ⟨rfl, rfl⟩))
    (fun os started H enc _ => lifted os started H enc)

theorem proved : Rows.FnExactValidFlowSaid := over
#print axioms proved
end Go.Proofs.Ytkmofhpipcodbaa.fnExactValidFlow
