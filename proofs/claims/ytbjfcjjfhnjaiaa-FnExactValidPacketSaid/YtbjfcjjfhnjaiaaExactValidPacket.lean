
/- For every packet, the law on ValidPacket returns true; no further condition. -/
import Derived.Test.YtbjfcjjfhnjaiaaRows
import Derived.WalkKit
import Derived.ProofKit
import Derived.OpenShut
import Derived.ShutString
import Derived.ChangeOld
import Derived.Below
import Derived.Test.YtbjfcjjfhnjaiaaOPathPart
import Derived.Test.YtbjfcjjfhnjaiaaOpenN
import Derived.Test.YtbjfcjjfhnjaiaaStruct
import Derived.Deep.RegionHeld3
import Derived.Test.YtbjfcjjfhnjaiaaVPkS
namespace Go.Proofs.Ytbjfcjjfhnjaiaa.fnExactValidPacket
open Go.ChangeShapes Go.WideShapes Go.ChangeAt Go.RowKit
open Go.ChangeMaps (open_string shut_string)
set_option linter.unusedVariables false

theorem own : ownKnob Try.prog.godebug = none := by kernel_rfl
theorem laidOut : laidOutB Try.prog = true := by kernel_rfl

set_option maxRecDepth 100000 in
set_option maxHeartbeats 4000000 in
theorem walk (a0_0 : Int) (a0_1 : Int) (a0_2 : Int) (a0_3 : Option Addr) (n0_3 c0_3 : Nat) (z0_3 : List TPathPart) (a0_4 : Int) (a0_5 : Int) (a0_6 : Int) (a0_7 : Int) (a0_8 : Int) (a0_9 : Option Addr) (n0_9 c0_9 : Nat) (z0_9 : List TByte) (w : World) (w0_0 : (Lit.int .i64 a0_0).wf = true) (w0_1 : (Lit.int .i64 a0_1).wf = true) (w0_2 : (Lit.int .i64 a0_2).wf = true) (h0_3 : HasPathPart w w.heap.size a0_3 n0_3 z0_3) (m0_3 : n0_3 ≤ 9223372036854775807) (f0_3 : ∀ x ∈ z0_3, TPathPart.fits x) (w0_4 : (Lit.int .i64 a0_4).wf = true) (w0_5 : (Lit.int .i64 a0_5).wf = true) (w0_6 : (Lit.int .i64 a0_6).wf = true) (w0_7 : (Lit.int .i64 a0_7).wf = true) (w0_8 : (Lit.int .i64 a0_8).wf = true) (h0_9 : HasByte w w.heap.size a0_9 n0_9 z0_9) (m0_9 : n0_9 ≤ 9223372036854775807) (f0_9 : ∀ x ∈ z0_9, TByte.fits x) :
    Calls Try.prog 4 #[.agg #[.int .i64 a0_0, .int .i64 a0_1, .int .i64 a0_2, .slice a0_3 n0_3 c0_3, .int .i64 a0_4, .int .i64 a0_5, .int .i64 a0_6, .int .i64 a0_7, .int .i64 a0_8, .slice a0_9 n0_9 c0_9]] w fun e w' => e = .returned (.bool true) ∧ Below w.heap.size w w' := by
  by_cases hbig0 : (1048576 : Int) < ((szPathPart z0_3 n0_3 : Nat) : Int) + (n0_9 : Int)
  · go_enter Try.func4, Try.ntmps4
    go_wp2_with fail
    have M0 : Mk0 w (w.alloc (Obj.cells #[Value.int .i64 a0_0, Value.int .i64 a0_1, Value.int .i64 a0_2, Value.slice a0_3 n0_3 c0_3, Value.int .i64 a0_4, Value.int .i64 a0_5, Value.int .i64 a0_6, Value.int .i64 a0_7, Value.int .i64 a0_8, Value.slice a0_9 n0_9 c0_9] 36)) := (Mk.alloc w _)
    have k0_0 : (w.alloc (Obj.cells #[Value.int .i64 a0_0, Value.int .i64 a0_1, Value.int .i64 a0_2, Value.slice a0_3 n0_3 c0_3, Value.int .i64 a0_4, Value.int .i64 a0_5, Value.int .i64 a0_6, Value.int .i64 a0_7, Value.int .i64 a0_8, Value.slice a0_9 n0_9 c0_9] 36)).cell? ⟨w.heap.size, 0, none⟩ = some (.int .i64 a0_0) := by simp [go_sem]
    have k0_1 : (w.alloc (Obj.cells #[Value.int .i64 a0_0, Value.int .i64 a0_1, Value.int .i64 a0_2, Value.slice a0_3 n0_3 c0_3, Value.int .i64 a0_4, Value.int .i64 a0_5, Value.int .i64 a0_6, Value.int .i64 a0_7, Value.int .i64 a0_8, Value.slice a0_9 n0_9 c0_9] 36)).cell? ⟨w.heap.size, 1, none⟩ = some (.int .i64 a0_1) := by simp [go_sem]
    have k0_2 : (w.alloc (Obj.cells #[Value.int .i64 a0_0, Value.int .i64 a0_1, Value.int .i64 a0_2, Value.slice a0_3 n0_3 c0_3, Value.int .i64 a0_4, Value.int .i64 a0_5, Value.int .i64 a0_6, Value.int .i64 a0_7, Value.int .i64 a0_8, Value.slice a0_9 n0_9 c0_9] 36)).cell? ⟨w.heap.size, 2, none⟩ = some (.int .i64 a0_2) := by simp [go_sem]
    have k0_3 : (w.alloc (Obj.cells #[Value.int .i64 a0_0, Value.int .i64 a0_1, Value.int .i64 a0_2, Value.slice a0_3 n0_3 c0_3, Value.int .i64 a0_4, Value.int .i64 a0_5, Value.int .i64 a0_6, Value.int .i64 a0_7, Value.int .i64 a0_8, Value.slice a0_9 n0_9 c0_9] 36)).cell? ⟨w.heap.size, 3, none⟩ = some (.slice a0_3 n0_3 c0_3) := by simp [go_sem]
    have k0_4 : (w.alloc (Obj.cells #[Value.int .i64 a0_0, Value.int .i64 a0_1, Value.int .i64 a0_2, Value.slice a0_3 n0_3 c0_3, Value.int .i64 a0_4, Value.int .i64 a0_5, Value.int .i64 a0_6, Value.int .i64 a0_7, Value.int .i64 a0_8, Value.slice a0_9 n0_9 c0_9] 36)).cell? ⟨w.heap.size, 4, none⟩ = some (.int .i64 a0_4) := by simp [go_sem]
    have k0_5 : (w.alloc (Obj.cells #[Value.int .i64 a0_0, Value.int .i64 a0_1, Value.int .i64 a0_2, Value.slice a0_3 n0_3 c0_3, Value.int .i64 a0_4, Value.int .i64 a0_5, Value.int .i64 a0_6, Value.int .i64 a0_7, Value.int .i64 a0_8, Value.slice a0_9 n0_9 c0_9] 36)).cell? ⟨w.heap.size, 5, none⟩ = some (.int .i64 a0_5) := by simp [go_sem]
    have k0_6 : (w.alloc (Obj.cells #[Value.int .i64 a0_0, Value.int .i64 a0_1, Value.int .i64 a0_2, Value.slice a0_3 n0_3 c0_3, Value.int .i64 a0_4, Value.int .i64 a0_5, Value.int .i64 a0_6, Value.int .i64 a0_7, Value.int .i64 a0_8, Value.slice a0_9 n0_9 c0_9] 36)).cell? ⟨w.heap.size, 6, none⟩ = some (.int .i64 a0_6) := by simp [go_sem]
    have k0_7 : (w.alloc (Obj.cells #[Value.int .i64 a0_0, Value.int .i64 a0_1, Value.int .i64 a0_2, Value.slice a0_3 n0_3 c0_3, Value.int .i64 a0_4, Value.int .i64 a0_5, Value.int .i64 a0_6, Value.int .i64 a0_7, Value.int .i64 a0_8, Value.slice a0_9 n0_9 c0_9] 36)).cell? ⟨w.heap.size, 7, none⟩ = some (.int .i64 a0_7) := by simp [go_sem]
    have k0_8 : (w.alloc (Obj.cells #[Value.int .i64 a0_0, Value.int .i64 a0_1, Value.int .i64 a0_2, Value.slice a0_3 n0_3 c0_3, Value.int .i64 a0_4, Value.int .i64 a0_5, Value.int .i64 a0_6, Value.int .i64 a0_7, Value.int .i64 a0_8, Value.slice a0_9 n0_9 c0_9] 36)).cell? ⟨w.heap.size, 8, none⟩ = some (.int .i64 a0_8) := by simp [go_sem]
    have k0_9 : (w.alloc (Obj.cells #[Value.int .i64 a0_0, Value.int .i64 a0_1, Value.int .i64 a0_2, Value.slice a0_3 n0_3 c0_3, Value.int .i64 a0_4, Value.int .i64 a0_5, Value.int .i64 a0_6, Value.int .i64 a0_7, Value.int .i64 a0_8, Value.slice a0_9 n0_9 c0_9] 36)).cell? ⟨w.heap.size, 9, none⟩ = some (.slice a0_9 n0_9 c0_9) := by simp [go_sem]
    refine (szPacketB _ _ _ _ _ _ _ _ _ _ _ _ _ _ z0_3 w.heap.size _ _ (h0_3.mk M0 (Nat.le_refl _) (.inr (Nat.le_refl _))) M0.size (by omega) (by omega) (by omega) m0_3 m0_9).mono ?_
    rintro e w1 ⟨rfl, m1⟩
    go_wp2_with fail
    go_ret
    exact ⟨rfl, (M0.trans m1).below0⟩
  have hn0 : ((szPathPart z0_3 n0_3 : Nat) : Int) + (n0_9 : Int) ≤ (1048576 : Int) := by omega
  clear hbig0
  go_enter Try.func4, Try.ntmps4
  go_wp2_with fail
  have M0 : Mk0 w (w.alloc (Obj.cells #[Value.int .i64 a0_0, Value.int .i64 a0_1, Value.int .i64 a0_2, Value.slice a0_3 n0_3 c0_3, Value.int .i64 a0_4, Value.int .i64 a0_5, Value.int .i64 a0_6, Value.int .i64 a0_7, Value.int .i64 a0_8, Value.slice a0_9 n0_9 c0_9] 36)) := (Mk.alloc w _)
  have k0_0 : (w.alloc (Obj.cells #[Value.int .i64 a0_0, Value.int .i64 a0_1, Value.int .i64 a0_2, Value.slice a0_3 n0_3 c0_3, Value.int .i64 a0_4, Value.int .i64 a0_5, Value.int .i64 a0_6, Value.int .i64 a0_7, Value.int .i64 a0_8, Value.slice a0_9 n0_9 c0_9] 36)).cell? ⟨w.heap.size, 0, none⟩ = some (.int .i64 a0_0) := by simp [go_sem]
  have k0_1 : (w.alloc (Obj.cells #[Value.int .i64 a0_0, Value.int .i64 a0_1, Value.int .i64 a0_2, Value.slice a0_3 n0_3 c0_3, Value.int .i64 a0_4, Value.int .i64 a0_5, Value.int .i64 a0_6, Value.int .i64 a0_7, Value.int .i64 a0_8, Value.slice a0_9 n0_9 c0_9] 36)).cell? ⟨w.heap.size, 1, none⟩ = some (.int .i64 a0_1) := by simp [go_sem]
  have k0_2 : (w.alloc (Obj.cells #[Value.int .i64 a0_0, Value.int .i64 a0_1, Value.int .i64 a0_2, Value.slice a0_3 n0_3 c0_3, Value.int .i64 a0_4, Value.int .i64 a0_5, Value.int .i64 a0_6, Value.int .i64 a0_7, Value.int .i64 a0_8, Value.slice a0_9 n0_9 c0_9] 36)).cell? ⟨w.heap.size, 2, none⟩ = some (.int .i64 a0_2) := by simp [go_sem]
  have k0_3 : (w.alloc (Obj.cells #[Value.int .i64 a0_0, Value.int .i64 a0_1, Value.int .i64 a0_2, Value.slice a0_3 n0_3 c0_3, Value.int .i64 a0_4, Value.int .i64 a0_5, Value.int .i64 a0_6, Value.int .i64 a0_7, Value.int .i64 a0_8, Value.slice a0_9 n0_9 c0_9] 36)).cell? ⟨w.heap.size, 3, none⟩ = some (.slice a0_3 n0_3 c0_3) := by simp [go_sem]
  have k0_4 : (w.alloc (Obj.cells #[Value.int .i64 a0_0, Value.int .i64 a0_1, Value.int .i64 a0_2, Value.slice a0_3 n0_3 c0_3, Value.int .i64 a0_4, Value.int .i64 a0_5, Value.int .i64 a0_6, Value.int .i64 a0_7, Value.int .i64 a0_8, Value.slice a0_9 n0_9 c0_9] 36)).cell? ⟨w.heap.size, 4, none⟩ = some (.int .i64 a0_4) := by simp [go_sem]
  have k0_5 : (w.alloc (Obj.cells #[Value.int .i64 a0_0, Value.int .i64 a0_1, Value.int .i64 a0_2, Value.slice a0_3 n0_3 c0_3, Value.int .i64 a0_4, Value.int .i64 a0_5, Value.int .i64 a0_6, Value.int .i64 a0_7, Value.int .i64 a0_8, Value.slice a0_9 n0_9 c0_9] 36)).cell? ⟨w.heap.size, 5, none⟩ = some (.int .i64 a0_5) := by simp [go_sem]
  have k0_6 : (w.alloc (Obj.cells #[Value.int .i64 a0_0, Value.int .i64 a0_1, Value.int .i64 a0_2, Value.slice a0_3 n0_3 c0_3, Value.int .i64 a0_4, Value.int .i64 a0_5, Value.int .i64 a0_6, Value.int .i64 a0_7, Value.int .i64 a0_8, Value.slice a0_9 n0_9 c0_9] 36)).cell? ⟨w.heap.size, 6, none⟩ = some (.int .i64 a0_6) := by simp [go_sem]
  have k0_7 : (w.alloc (Obj.cells #[Value.int .i64 a0_0, Value.int .i64 a0_1, Value.int .i64 a0_2, Value.slice a0_3 n0_3 c0_3, Value.int .i64 a0_4, Value.int .i64 a0_5, Value.int .i64 a0_6, Value.int .i64 a0_7, Value.int .i64 a0_8, Value.slice a0_9 n0_9 c0_9] 36)).cell? ⟨w.heap.size, 7, none⟩ = some (.int .i64 a0_7) := by simp [go_sem]
  have k0_8 : (w.alloc (Obj.cells #[Value.int .i64 a0_0, Value.int .i64 a0_1, Value.int .i64 a0_2, Value.slice a0_3 n0_3 c0_3, Value.int .i64 a0_4, Value.int .i64 a0_5, Value.int .i64 a0_6, Value.int .i64 a0_7, Value.int .i64 a0_8, Value.slice a0_9 n0_9 c0_9] 36)).cell? ⟨w.heap.size, 8, none⟩ = some (.int .i64 a0_8) := by simp [go_sem]
  have k0_9 : (w.alloc (Obj.cells #[Value.int .i64 a0_0, Value.int .i64 a0_1, Value.int .i64 a0_2, Value.slice a0_3 n0_3 c0_3, Value.int .i64 a0_4, Value.int .i64 a0_5, Value.int .i64 a0_6, Value.int .i64 a0_7, Value.int .i64 a0_8, Value.slice a0_9 n0_9 c0_9] 36)).cell? ⟨w.heap.size, 9, none⟩ = some (.slice a0_9 n0_9 c0_9) := by simp [go_sem]
  refine (szPacketC _ _ _ _ _ _ _ _ _ _ _ _ _ _ z0_3 w.heap.size _ _ (h0_3.mk M0 (Nat.le_refl _) (.inr (Nat.le_refl _))) M0.size (by omega) (by omega) (by omega)).mono ?_
  rintro e w1 ⟨l1, hl1, rfl, m1⟩
  have M1 := M0.trans m1
  replace k0_0 := m1.cellAt k0_0
  replace k0_1 := m1.cellAt k0_1
  replace k0_2 := m1.cellAt k0_2
  replace k0_3 := m1.cellAt k0_3
  replace k0_4 := m1.cellAt k0_4
  replace k0_5 := m1.cellAt k0_5
  replace k0_6 := m1.cellAt k0_6
  replace k0_7 := m1.cellAt k0_7
  replace k0_8 := m1.cellAt k0_8
  replace k0_9 := m1.cellAt k0_9
  have z1 := m1.size
  simp only [World.size_alloc] at z1
  go_wp2_with fail
  refine (toPacketC _ _ _ _ _ _ _ _ _ _ _ _ _ _ _ _ w.heap.size _ (h0_3.mk M1 (Nat.le_refl _) (.inr (Nat.le_refl _))) (h0_9.mk M1 (Nat.le_refl _) (.inr (Nat.le_refl _))) (by omega) (by omega) (by omega)).mono ?_
  rintro e w2 ⟨b1, b2, d3, rfl, o4, o5, g6, g7, m2⟩
  have M2 := M1.trans m2
  have z2 := m2.size
  replace k0_0 := m2.cellAt k0_0
  replace k0_1 := m2.cellAt k0_1
  replace k0_2 := m2.cellAt k0_2
  replace k0_3 := m2.cellAt k0_3
  replace k0_4 := m2.cellAt k0_4
  replace k0_5 := m2.cellAt k0_5
  replace k0_6 := m2.cellAt k0_6
  replace k0_7 := m2.cellAt k0_7
  replace k0_8 := m2.cellAt k0_8
  replace k0_9 := m2.cellAt k0_9
  have h8 := o4.has.mono (B' := w2.heap.size) (by omega)
  clear o4
  have h9 := o5.has.mono (B' := w2.heap.size) (by omega)
  clear o5
  go_wp2_with fail
  refine (specVPk a0_0 a0_1 a0_2 a0_4 a0_5 a0_6 a0_7 a0_8 _ n0_3 _ z0_3 _ n0_9 _ _ _ h8 (by omega) (by omega)).mono ?_
  rintro e w3 ⟨rfl, m3⟩
  have M3 := M2.trans m3
  have z3 := m3.size
  replace k0_0 := m3.cellAt k0_0
  replace k0_1 := m3.cellAt k0_1
  replace k0_2 := m3.cellAt k0_2
  replace k0_3 := m3.cellAt k0_3
  replace k0_4 := m3.cellAt k0_4
  replace k0_5 := m3.cellAt k0_5
  replace k0_6 := m3.cellAt k0_6
  replace k0_7 := m3.cellAt k0_7
  replace k0_8 := m3.cellAt k0_8
  replace k0_9 := m3.cellAt k0_9
  replace h8 := h8.mk m3 (by omega) (.inr (Nat.le_refl _))
  replace h9 := h9.mk m3 (by omega) (.inr (Nat.le_refl _))
  go_wp2_with fail
  refine (toPacketC _ _ _ _ _ _ _ _ _ _ _ _ _ _ _ _ w.heap.size _ (h0_3.mk M3 (Nat.le_refl _) (.inr (Nat.le_refl _))) (h0_9.mk M3 (Nat.le_refl _) (.inr (Nat.le_refl _))) (by omega) (by omega) (by omega)).mono ?_
  rintro e w4 ⟨b10, b11, d12, rfl, o13, o14, g15, g16, m4⟩
  have M4 := M3.trans m4
  have z4 := m4.size
  replace k0_0 := m4.cellAt k0_0
  replace k0_1 := m4.cellAt k0_1
  replace k0_2 := m4.cellAt k0_2
  replace k0_3 := m4.cellAt k0_3
  replace k0_4 := m4.cellAt k0_4
  replace k0_5 := m4.cellAt k0_5
  replace k0_6 := m4.cellAt k0_6
  replace k0_7 := m4.cellAt k0_7
  replace k0_8 := m4.cellAt k0_8
  replace k0_9 := m4.cellAt k0_9
  have h17 := o13.has.mono (B' := w4.heap.size) (by omega)
  clear o13
  have h18 := o14.has.mono (B' := w4.heap.size) (by omega)
  clear o14
  go_wp2_with fail
  have xx0_0 : (w4.alloc (Obj.cells #[Value.int .i64 a0_0, Value.int .i64 a0_1, Value.int .i64 a0_2, Value.slice (some ⟨b10, 0, none⟩) n0_3 n0_3, Value.int .i64 a0_4, Value.int .i64 a0_5, Value.int .i64 a0_6, Value.int .i64 a0_7, Value.int .i64 a0_8, Value.slice (some ⟨b11, 0, none⟩) n0_9 n0_9] 40)).cell? ⟨w4.heap.size, 0, none⟩ = some (.int .i64 a0_0) := by rw [World.cell?_alloc_at _ _ _ _ rfl]; rfl
  have xx0_1 : (w4.alloc (Obj.cells #[Value.int .i64 a0_0, Value.int .i64 a0_1, Value.int .i64 a0_2, Value.slice (some ⟨b10, 0, none⟩) n0_3 n0_3, Value.int .i64 a0_4, Value.int .i64 a0_5, Value.int .i64 a0_6, Value.int .i64 a0_7, Value.int .i64 a0_8, Value.slice (some ⟨b11, 0, none⟩) n0_9 n0_9] 40)).cell? ⟨w4.heap.size, 1, none⟩ = some (.int .i64 a0_1) := by rw [World.cell?_alloc_at _ _ _ _ rfl]; rfl
  have xx0_2 : (w4.alloc (Obj.cells #[Value.int .i64 a0_0, Value.int .i64 a0_1, Value.int .i64 a0_2, Value.slice (some ⟨b10, 0, none⟩) n0_3 n0_3, Value.int .i64 a0_4, Value.int .i64 a0_5, Value.int .i64 a0_6, Value.int .i64 a0_7, Value.int .i64 a0_8, Value.slice (some ⟨b11, 0, none⟩) n0_9 n0_9] 40)).cell? ⟨w4.heap.size, 2, none⟩ = some (.int .i64 a0_2) := by rw [World.cell?_alloc_at _ _ _ _ rfl]; rfl
  have xx0_3 : (w4.alloc (Obj.cells #[Value.int .i64 a0_0, Value.int .i64 a0_1, Value.int .i64 a0_2, Value.slice (some ⟨b10, 0, none⟩) n0_3 n0_3, Value.int .i64 a0_4, Value.int .i64 a0_5, Value.int .i64 a0_6, Value.int .i64 a0_7, Value.int .i64 a0_8, Value.slice (some ⟨b11, 0, none⟩) n0_9 n0_9] 40)).cell? ⟨w4.heap.size, 3, none⟩ = some (.slice (some ⟨b10, 0, none⟩) n0_3 n0_3) := by rw [World.cell?_alloc_at _ _ _ _ rfl]; rfl
  have xx0_4 : (w4.alloc (Obj.cells #[Value.int .i64 a0_0, Value.int .i64 a0_1, Value.int .i64 a0_2, Value.slice (some ⟨b10, 0, none⟩) n0_3 n0_3, Value.int .i64 a0_4, Value.int .i64 a0_5, Value.int .i64 a0_6, Value.int .i64 a0_7, Value.int .i64 a0_8, Value.slice (some ⟨b11, 0, none⟩) n0_9 n0_9] 40)).cell? ⟨w4.heap.size, 4, none⟩ = some (.int .i64 a0_4) := by rw [World.cell?_alloc_at _ _ _ _ rfl]; rfl
  have xx0_5 : (w4.alloc (Obj.cells #[Value.int .i64 a0_0, Value.int .i64 a0_1, Value.int .i64 a0_2, Value.slice (some ⟨b10, 0, none⟩) n0_3 n0_3, Value.int .i64 a0_4, Value.int .i64 a0_5, Value.int .i64 a0_6, Value.int .i64 a0_7, Value.int .i64 a0_8, Value.slice (some ⟨b11, 0, none⟩) n0_9 n0_9] 40)).cell? ⟨w4.heap.size, 5, none⟩ = some (.int .i64 a0_5) := by rw [World.cell?_alloc_at _ _ _ _ rfl]; rfl
  have xx0_6 : (w4.alloc (Obj.cells #[Value.int .i64 a0_0, Value.int .i64 a0_1, Value.int .i64 a0_2, Value.slice (some ⟨b10, 0, none⟩) n0_3 n0_3, Value.int .i64 a0_4, Value.int .i64 a0_5, Value.int .i64 a0_6, Value.int .i64 a0_7, Value.int .i64 a0_8, Value.slice (some ⟨b11, 0, none⟩) n0_9 n0_9] 40)).cell? ⟨w4.heap.size, 6, none⟩ = some (.int .i64 a0_6) := by rw [World.cell?_alloc_at _ _ _ _ rfl]; rfl
  have xx0_7 : (w4.alloc (Obj.cells #[Value.int .i64 a0_0, Value.int .i64 a0_1, Value.int .i64 a0_2, Value.slice (some ⟨b10, 0, none⟩) n0_3 n0_3, Value.int .i64 a0_4, Value.int .i64 a0_5, Value.int .i64 a0_6, Value.int .i64 a0_7, Value.int .i64 a0_8, Value.slice (some ⟨b11, 0, none⟩) n0_9 n0_9] 40)).cell? ⟨w4.heap.size, 7, none⟩ = some (.int .i64 a0_7) := by rw [World.cell?_alloc_at _ _ _ _ rfl]; rfl
  have xx0_8 : (w4.alloc (Obj.cells #[Value.int .i64 a0_0, Value.int .i64 a0_1, Value.int .i64 a0_2, Value.slice (some ⟨b10, 0, none⟩) n0_3 n0_3, Value.int .i64 a0_4, Value.int .i64 a0_5, Value.int .i64 a0_6, Value.int .i64 a0_7, Value.int .i64 a0_8, Value.slice (some ⟨b11, 0, none⟩) n0_9 n0_9] 40)).cell? ⟨w4.heap.size, 8, none⟩ = some (.int .i64 a0_8) := by rw [World.cell?_alloc_at _ _ _ _ rfl]; rfl
  have xx0_9 : (w4.alloc (Obj.cells #[Value.int .i64 a0_0, Value.int .i64 a0_1, Value.int .i64 a0_2, Value.slice (some ⟨b10, 0, none⟩) n0_3 n0_3, Value.int .i64 a0_4, Value.int .i64 a0_5, Value.int .i64 a0_6, Value.int .i64 a0_7, Value.int .i64 a0_8, Value.slice (some ⟨b11, 0, none⟩) n0_9 n0_9] 40)).cell? ⟨w4.heap.size, 9, none⟩ = some (.slice (some ⟨b11, 0, none⟩) n0_9 n0_9) := by rw [World.cell?_alloc_at _ _ _ _ rfl]; rfl
  refine (implVPk a0_0 a0_1 a0_2 a0_4 a0_5 a0_6 a0_7 a0_8 _ n0_3 _ z0_3 _ n0_9 _ _ _ (h17.mk (Mk.alloc _ _) (by omega) (.inr (Nat.le_refl _))) (by rw [World.size_alloc]; omega) (by omega)).mono ?_
  rintro e w5 ⟨rfl, m5⟩
  replace xx0_0 := m5.cellAt xx0_0
  replace xx0_1 := m5.cellAt xx0_1
  replace xx0_2 := m5.cellAt xx0_2
  replace xx0_3 := m5.cellAt xx0_3
  replace xx0_4 := m5.cellAt xx0_4
  replace xx0_5 := m5.cellAt xx0_5
  replace xx0_6 := m5.cellAt xx0_6
  replace xx0_7 := m5.cellAt xx0_7
  replace xx0_8 := m5.cellAt xx0_8
  replace xx0_9 := m5.cellAt xx0_9
  replace m5 := (Mk.alloc w4 _).trans m5
  have M5 := M4.trans m5
  have z5 := m5.size
  replace k0_0 := m5.cellAt k0_0
  replace k0_1 := m5.cellAt k0_1
  replace k0_2 := m5.cellAt k0_2
  replace k0_3 := m5.cellAt k0_3
  replace k0_4 := m5.cellAt k0_4
  replace k0_5 := m5.cellAt k0_5
  replace k0_6 := m5.cellAt k0_6
  replace k0_7 := m5.cellAt k0_7
  replace k0_8 := m5.cellAt k0_8
  replace k0_9 := m5.cellAt k0_9
  replace h17 := h17.mk m5 (by omega) (.inr (Nat.le_refl _))
  replace h18 := h18.mk m5 (by omega) (.inr (Nat.le_refl _))
  go_wp2_with fail
  have e19 : ∀ w', Mk0 w5 w' → HasPathPart w' w4.heap.size (some ⟨b10, 0, none⟩) n0_3 z0_3 := fun w' m => h17.mk m (by omega) (.inr (Nat.le_refl _))
  have e20 : ∀ w', Mk0 w5 w' → HasByte w' w4.heap.size (some ⟨b11, 0, none⟩) n0_9 z0_9 := fun w' m => h18.mk m (by omega) (.inr (Nat.le_refl _))
  have e21 : ∀ w', Mk0 w5 w' → w4.heap.size ≤ w'.heap.size := fun w' m => Nat.le_trans (by omega) m.size
  have e22 : ∀ w', Mk0 w5 w' → HasPathPart w' w.heap.size a0_3 n0_3 z0_3 := fun w' m => h0_3.mk (M5.trans m) (Nat.le_refl _) (.inr (Nat.le_refl _))
  have e23 : ∀ w', Mk0 w5 w' → HasByte w' w.heap.size a0_9 n0_9 z0_9 := fun w' m => h0_9.mk (M5.trans m) (Nat.le_refl _) (.inr (Nat.le_refl _))
  have hN0_3 : szPathPart z0_3 n0_3 ≤ 1048576 := by omega
  have hN0_9 : n0_9 ≤ 1048576 := by omega
  go_region_held3 (fun w' => Mk0 w5 w' ∧ w'.cell? ⟨w.heap.size, 0, none⟩ = some (.int .i64 a0_0) ∧ w'.cell? ⟨w.heap.size, 1, none⟩ = some (.int .i64 a0_1) ∧ w'.cell? ⟨w.heap.size, 2, none⟩ = some (.int .i64 a0_2) ∧ w'.cell? ⟨w.heap.size, 3, none⟩ = some (.slice a0_3 n0_3 c0_3) ∧ w'.cell? ⟨w.heap.size, 4, none⟩ = some (.int .i64 a0_4) ∧ w'.cell? ⟨w.heap.size, 5, none⟩ = some (.int .i64 a0_5) ∧ w'.cell? ⟨w.heap.size, 6, none⟩ = some (.int .i64 a0_6) ∧ w'.cell? ⟨w.heap.size, 7, none⟩ = some (.int .i64 a0_7) ∧ w'.cell? ⟨w.heap.size, 8, none⟩ = some (.int .i64 a0_8) ∧ w'.cell? ⟨w.heap.size, 9, none⟩ = some (.slice a0_9 n0_9 c0_9) ∧ w'.cell? ⟨w4.heap.size, 0, none⟩ = some (.int .i64 a0_0) ∧ w'.cell? ⟨w4.heap.size, 1, none⟩ = some (.int .i64 a0_1) ∧ w'.cell? ⟨w4.heap.size, 2, none⟩ = some (.int .i64 a0_2) ∧ w'.cell? ⟨w4.heap.size, 3, none⟩ = some (.slice (some ⟨b10, 0, none⟩) n0_3 n0_3) ∧ w'.cell? ⟨w4.heap.size, 4, none⟩ = some (.int .i64 a0_4) ∧ w'.cell? ⟨w4.heap.size, 5, none⟩ = some (.int .i64 a0_5) ∧ w'.cell? ⟨w4.heap.size, 6, none⟩ = some (.int .i64 a0_6) ∧ w'.cell? ⟨w4.heap.size, 7, none⟩ = some (.int .i64 a0_7) ∧ w'.cell? ⟨w4.heap.size, 8, none⟩ = some (.int .i64 a0_8) ∧ w'.cell? ⟨w4.heap.size, 9, none⟩ = some (.slice (some ⟨b11, 0, none⟩) n0_9 n0_9)) (first | exact ⟨Mk.drew1 _, k0_0, k0_1, k0_2, k0_3, k0_4, k0_5, k0_6, k0_7, k0_8, k0_9, xx0_0, xx0_1, xx0_2, xx0_3, xx0_4, xx0_5, xx0_6, xx0_7, xx0_8, xx0_9⟩ | (obtain ⟨s0, s1, s2, s3, s4, s5, s6, s7, s8, s9, s10, s11, s12, s13, s14, s15, s16, s17, s18, s19, s20⟩ := ‹Mk0 w5 _ ∧ _›; exact ⟨s0.trans mm, mm.cellAt s1, mm.cellAt s2, mm.cellAt s3, mm.cellAt s4, mm.cellAt s5, mm.cellAt s6, mm.cellAt s7, mm.cellAt s8, mm.cellAt s9, mm.cellAt s10, mm.cellAt s11, mm.cellAt s12, mm.cellAt s13, mm.cellAt s14, mm.cellAt s15, mm.cellAt s16, mm.cellAt s17, mm.cellAt s18, mm.cellAt s19, mm.cellAt s20⟩)) (first | (go_at_call 21; refine (toPacketC _ _ _ _ _ _ _ _ _ _ _ _ _ _ _ _ w.heap.size _ (e22 _ (‹Mk0 w5 _ ∧ _›).1) (e23 _ (‹Mk0 w5 _ ∧ _›).1) (M5.trans (‹Mk0 w5 _ ∧ _›).1).size hN0_3 hN0_9).mono ?_; rintro e wa ⟨bb0, bb1, dd0, rfl, oo0, oo1, gg0, gg1, mm⟩) | (go_at_call 23; refine (eqPacketC _ _ _ _ _ _ _ _ _ _ _ _ _ _ _ _ _ _ _ _ _ _ _ (e19 _ (‹Mk0 w5 _ ∧ _›).1) (e20 _ (‹Mk0 w5 _ ∧ _›).1) (oo0.has.mono gg1) (oo1.has.mono (Nat.le_refl _)) (e21 _ (‹Mk0 w5 _ ∧ _›).1) (Nat.le_refl _) hN0_3 hN0_9).mono ?_; rintro e wb6 ⟨rfl, mm⟩))
  obtain ⟨m6, k0_0, k0_1, k0_2, k0_3, k0_4, k0_5, k0_6, k0_7, k0_8, k0_9, xx0_0, xx0_1, xx0_2, xx0_3, xx0_4, xx0_5, xx0_6, xx0_7, xx0_8, xx0_9⟩ := ‹Mk0 w5 _ ∧ _›
  clear e19 e20 e21 e22 e23 hN0_3 hN0_9
  refine ‹∀ (a : Act) (w : World), _ → _› _ _ ?_
  have M6 := M5.trans m6
  have z6 := m6.size
  replace h17 := h17.mk m6 (by omega) (.inr (Nat.le_refl _))
  replace h18 := h18.mk m6 (by omega) (.inr (Nat.le_refl _))
  go_wp2_with fail
  go_ret
  exact ⟨rfl, M6.below0⟩

set_option maxRecDepth 100000 in
theorem lifted (os : Os) (started : os.Started) (H : Type) (enc : TypeId × Value → H) :
    ReturnsInHanded {} Try.checked os 4 .any (Rows.fnExactValidPacketSpec.pre6 enc Try.prog Try.f4 Rows.fnExactValidPacketRow.domain false) (Rows.fnExactValidPacketSpec.post enc Try.prog Try.f4 false true false false) := by
  refine returnsInHanded_of_change (C := Try.checked) own started (by kernel_rfl) Try.func4
    (ChangeSpec.witness6 (enc := enc) (C := Try.checked) false ⟨#[], #[.agg #[.int .i64 0, .int .i64 0, .int .i64 0, .slice none 0 0, .int .i64 0, .int .i64 0, .int .i64 0, .int .i64 0, .int .i64 0, .slice none 0 0]], []⟩ 8 (by kernel_rfl) (by kernel_rfl) (by kernel_rfl) (by kernel_rfl)) ?_
  intro W base args ds gs before hval0 hW hcnd _
  have hval : ∀ (j : Nat) t v, Try.f4.params[j]? = some t → args[j]? = some v → Value.okWide Try.prog W .any base t v := hval0
  have hW' := hW
  obtain ⟨p, q, hA0, hV, rfl, hfz, hnd⟩ := hW
  have hA : DataW.TrodAll enc Try.prog W 0 (fun _ => true) true Try.f4.params.toList args.toList ds p := hA0
  rw [Try.params4] at hA hval
  obtain ⟨v0, vs0, d0, ds0, p0, q0, hargs, rfl, rfl, h0, r0⟩ := trodAll_cons hA
  obtain ⟨rfl, rfl, rfl⟩ := trodAll_nil r0
  obtain rfl : args = #[v0] := by cases args; simp_all
  obtain ⟨rfl, rfl⟩ := trodVars_none hV
  have k0 := h0
  have lt0 : ∀ x ∈ p0, x.block < W.heap.size := by obtain ⟨m, hm⟩ := k0; exact DataW.trod_lt m _ _ _ hm
  obtain ⟨cs0, rfl, hcs0, hl0⟩ := lf_open 10 Try.underlying36 (by kernel_rfl) (hval 0 36 v0 rfl rfl) h0
  have L0_0 := lf_field (a := 0) (b := 1) 0 _ Try.underlying36 rfl rfl (by kernel_rfl) (by decide) hl0
  obtain ⟨_, _, _, e0_0, q0_0⟩ := lf_leaf (o := 0) (by rw [hcs0]; decide) L0_0
  have L0_1 := lf_field (a := 1) (b := 1) 1 _ Try.underlying36 rfl rfl (by kernel_rfl) (by decide) hl0
  obtain ⟨_, _, _, e0_1, q0_1⟩ := lf_leaf (o := 1) (by rw [hcs0]; decide) L0_1
  have L0_2 := lf_field (a := 2) (b := 1) 2 _ Try.underlying36 rfl rfl (by kernel_rfl) (by decide) hl0
  obtain ⟨_, _, _, e0_2, q0_2⟩ := lf_leaf (o := 2) (by rw [hcs0]; decide) L0_2
  have L0_3 := lf_field (a := 3) (b := 1) 3 _ Try.underlying36 rfl rfl (by kernel_rfl) (by decide) hl0
  have L0_3x0 := lf_field (a := 0) (b := 1) 0 _ Try.underlying24 rfl rfl (by kernel_rfl) (by decide) L0_3
  obtain ⟨_, _, _, e0_3, q0_3⟩ := lf_leaf (o := 3) (by rw [hcs0]; decide) L0_3x0
  have L0_4 := lf_field (a := 4) (b := 1) 4 _ Try.underlying36 rfl rfl (by kernel_rfl) (by decide) hl0
  obtain ⟨_, _, _, e0_4, q0_4⟩ := lf_leaf (o := 4) (by rw [hcs0]; decide) L0_4
  have L0_5 := lf_field (a := 5) (b := 1) 5 _ Try.underlying36 rfl rfl (by kernel_rfl) (by decide) hl0
  obtain ⟨_, _, _, e0_5, q0_5⟩ := lf_leaf (o := 5) (by rw [hcs0]; decide) L0_5
  have L0_6 := lf_field (a := 6) (b := 1) 6 _ Try.underlying36 rfl rfl (by kernel_rfl) (by decide) hl0
  obtain ⟨_, _, _, e0_6, q0_6⟩ := lf_leaf (o := 6) (by rw [hcs0]; decide) L0_6
  have L0_7 := lf_field (a := 7) (b := 1) 7 _ Try.underlying36 rfl rfl (by kernel_rfl) (by decide) hl0
  obtain ⟨_, _, _, e0_7, q0_7⟩ := lf_leaf (o := 7) (by rw [hcs0]; decide) L0_7
  have L0_8 := lf_field (a := 8) (b := 1) 8 _ Try.underlying36 rfl rfl (by kernel_rfl) (by decide) hl0
  obtain ⟨_, _, _, e0_8, q0_8⟩ := lf_leaf (o := 8) (by rw [hcs0]; decide) L0_8
  have L0_9 := lf_field (a := 9) (b := 1) 9 _ Try.underlying36 rfl rfl (by kernel_rfl) (by decide) hl0
  obtain ⟨_, _, _, e0_9, q0_9⟩ := lf_leaf (o := 9) (by rw [hcs0]; decide) L0_9
  obtain ⟨a0_0, rfl, w0_0⟩ := one_int Try.underlying3 q0_0
  obtain ⟨a0_1, rfl, w0_1⟩ := one_int Try.underlying3 q0_1
  obtain ⟨a0_2, rfl, w0_2⟩ := one_int Try.underlying3 q0_2
  obtain ⟨a0_3, n0_3, c0_3, z0_3, rfl, m0_3, h0_3, f0_3⟩ := openPathPartS q0_3
  obtain ⟨a0_4, rfl, w0_4⟩ := one_int Try.underlying3 q0_4
  obtain ⟨a0_5, rfl, w0_5⟩ := one_int Try.underlying3 q0_5
  obtain ⟨a0_6, rfl, w0_6⟩ := one_int Try.underlying3 q0_6
  obtain ⟨a0_7, rfl, w0_7⟩ := one_int Try.underlying3 q0_7
  obtain ⟨a0_8, rfl, w0_8⟩ := one_int Try.underlying3 q0_8
  obtain ⟨a0_9, n0_9, c0_9, z0_9, rfl, m0_9, h0_9, f0_9⟩ := openByteS q0_9
  obtain rfl : cs0 = #[.int .i64 a0_0, .int .i64 a0_1, .int .i64 a0_2, .slice a0_3 n0_3 c0_3, .int .i64 a0_4, .int .i64 a0_5, .int .i64 a0_6, .int .i64 a0_7, .int .i64 a0_8, .slice a0_9 n0_9 c0_9] := arr_of [.int .i64 a0_0, .int .i64 a0_1, .int .i64 a0_2, .slice a0_3 n0_3 c0_3, .int .i64 a0_4, .int .i64 a0_5, .int .i64 a0_6, .int .i64 a0_7, .int .i64 a0_8, .slice a0_9 n0_9 c0_9] hcs0 (fun j hj => by match j, hj with | 0, _ => exact e0_0 | 1, _ => exact e0_1 | 2, _ => exact e0_2 | 3, _ => exact e0_3 | 4, _ => exact e0_4 | 5, _ => exact e0_5 | 6, _ => exact e0_6 | 7, _ => exact e0_7 | 8, _ => exact e0_8 | 9, _ => exact e0_9)
  clear hA0 hval0
  refine (walk a0_0 a0_1 a0_2 a0_3 n0_3 c0_3 z0_3 a0_4 a0_5 a0_6 a0_7 a0_8 a0_9 n0_9 c0_9 z0_9 W w0_0 w0_1 w0_2 h0_3 m0_3 f0_3 w0_4 w0_5 w0_6 w0_7 w0_8 h0_9 m0_9 f0_9).mono fun e W' ⟨he, bel⟩ => ?_
  subst he
  exact ⟨_, rfl, _, _, _, [], _, [], hW', trodAll_mk1 (shut_bool Try.underlying4 _), (trodAll_cons_mk (Below.trod laidOut (by kernel_rfl) (of_decide_eq_true (by kernel_rfl)) k0 bel lt0) trodAll_mk0), rfl, bel.frame _, fun h => by cases h⟩

theorem over : Rows.fnExactValidPacketRow.holds Try.pinned (OpenSpec.ofChange Rows.fnExactValidPacketSpec) :=
  OpenClaim.holds_of_wide 4 Try.f4 rfl rfl rfl rfl rfl rfl rfl ⟨rfl, rfl, rfl, rfl, rfl⟩ rfl rfl rfl rfl rfl (by kernel_rfl) Try.func4 (by kernel_rfl)
    (of_decide_eq_true (by kernel_rfl)) (by unfold Func.isWrapper; first | (rw [if_pos (by decide +kernel)]; kernel_rfl) | (rw [if_neg (by decide +kernel)]; exact ⟨rfl, rfl⟩))
    (fun os started H enc _ => lifted os started H enc)

theorem proved : Rows.FnExactValidPacketSaid := over
#print axioms proved
end Go.Proofs.Ytbjfcjjfhnjaiaa.fnExactValidPacket
