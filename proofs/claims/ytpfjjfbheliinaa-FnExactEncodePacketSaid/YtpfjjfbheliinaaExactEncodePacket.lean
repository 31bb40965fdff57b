
/- For every packet, the law on EncodePacket returns true; no further condition. -/
import Derived.Test.YtpfjjfbheliinaaRows
import Derived.WalkKit
import Derived.ProofKit
import Derived.OpenShut
import Derived.ShutString
import Derived.ChangeOld
import Derived.Below
import Derived.Test.YtpfjjfbheliinaaOPathPart
import Derived.Test.YtpfjjfbheliinaaOpenN
import Derived.Test.YtpfjjfbheliinaaStruct
import Derived.Deep.RegionHeld3
import Derived.Test.YtpfjjfbheliinaaEncPk
import Derived.Test.YtpfjjfbheliinaaKPacket
import Derived.Test.YtpfjjfbheliinaaByteR
namespace Go.Proofs.Ytpfjjfbheliinaa.fnExactEncodePacket
open Go.ChangeShapes Go.WideShapes Go.ChangeAt Go.RowKit
open Go.ChangeMaps (open_string shut_string)
set_option linter.unusedVariables false

theorem own : ownKnob Try.prog.godebug = none := by kernel_rfl
theorem laidOut : laidOutB Try.prog = true := by kernel_rfl

set_option maxRecDepth 100000 in
set_option maxHeartbeats 4000000 in
theorem walk (a0_0 : Int) (a0_1 : Int) (a0_2 : Int) (a0_3 : Option Addr) (n0_3 c0_3 : Nat) (z0_3 : List TPathPart) (a0_4 : Int) (a0_5 : Int) (a0_6 : Int) (a0_7 : Int) (a0_8 : Int) (a0_9 : Option Addr) (n0_9 c0_9 : Nat) (z0_9 : List TByte) (w : World) (w0_0 : (Lit.int .i64 a0_0).wf = true) (w0_1 : (Lit.int .i64 a0_1).wf = true) (w0_2 : (Lit.int .i64 a0_2).wf = true) (h0_3 : HasPathPart w w.heap.size a0_3 n0_3 z0_3) (m0_3 : n0_3 ≤ 9223372036854775807) (f0_3 : ∀ x ∈ z0_3, TPathPart.fits x) (w0_4 : (Lit.int .i64 a0_4).wf = true) (w0_5 : (Lit.int .i64 a0_5).wf = true) (w0_6 : (Lit.int .i64 a0_6).wf = true) (w0_7 : (Lit.int .i64 a0_7).wf = true) (w0_8 : (Lit.int .i64 a0_8).wf = true) (h0_9 : HasByte w w.heap.size a0_9 n0_9 z0_9) (m0_9 : n0_9 ≤ 9223372036854775807) (f0_9 : ∀ x ∈ z0_9, TByte.fits x) :
    Calls Try.prog 10 #[.agg #[.int .i64 a0_0, .int .i64 a0_1, .int .i64 a0_2, .slice a0_3 n0_3 c0_3, .int .i64 a0_4, .int .i64 a0_5, .int .i64 a0_6, .int .i64 a0_7, .int .i64 a0_8, .slice a0_9 n0_9 c0_9]] w fun e w' => e = .returned (.bool true) ∧ Below w.heap.size w w' := by
  by_cases hbig0 : (1048576 : Int) < ((szPathPart z0_3 n0_3 : Nat) : Int) + (n0_9 : Int)
  · go_enter Try.func10, Try.ntmps10
    go_wp2_with fail
    have M0 : Mk0 w (w.alloc (Obj.cells #[Value.int .i64 a0_0, Value.int .i64 a0_1, Value.int .i64 a0_2, Value.slice a0_3 n0_3 c0_3, Value.int .i64 a0_4, Value.int .i64 a0_5, Value.int .i64 a0_6, Value.int .i64 a0_7, Value.int .i64 a0_8, Value.slice a0_9 n0_9 c0_9] 81)) := (Mk.alloc w _)
    have k0_0 : (w.alloc (Obj.cells #[Value.int .i64 a0_0, Value.int .i64 a0_1, Value.int .i64 a0_2, Value.slice a0_3 n0_3 c0_3, Value.int .i64 a0_4, Value.int .i64 a0_5, Value.int .i64 a0_6, Value.int .i64 a0_7, Value.int .i64 a0_8, Value.slice a0_9 n0_9 c0_9] 81)).cell? ⟨w.heap.size, 0, none⟩ = some (.int .i64 a0_0) := by simp [go_sem]
    have k0_1 : (w.alloc (Obj.cells #[Value.int .i64 a0_0, Value.int .i64 a0_1, Value.int .i64 a0_2, Value.slice a0_3 n0_3 c0_3, Value.int .i64 a0_4, Value.int .i64 a0_5, Value.int .i64 a0_6, Value.int .i64 a0_7, Value.int .i64 a0_8, Value.slice a0_9 n0_9 c0_9] 81)).cell? ⟨w.heap.size, 1, none⟩ = some (.int .i64 a0_1) := by simp [go_sem]
    have k0_2 : (w.alloc (Obj.cells #[Value.int .i64 a0_0, Value.int .i64 a0_1, Value.int .i64 a0_2, Value.slice a0_3 n0_3 c0_3, Value.int .i64 a0_4, Value.int .i64 a0_5, Value.int .i64 a0_6, Value.int .i64 a0_7, Value.int .i64 a0_8, Value.slice a0_9 n0_9 c0_9] 81)).cell? ⟨w.heap.size, 2, none⟩ = some (.int .i64 a0_2) := by simp [go_sem]
    have k0_3 : (w.alloc (Obj.cells #[Value.int .i64 a0_0, Value.int .i64 a0_1, Value.int .i64 a0_2, Value.slice a0_3 n0_3 c0_3, Value.int .i64 a0_4, Value.int .i64 a0_5, Value.int .i64 a0_6, Value.int .i64 a0_7, Value.int .i64 a0_8, Value.slice a0_9 n0_9 c0_9] 81)).cell? ⟨w.heap.size, 3, none⟩ = some (.slice a0_3 n0_3 c0_3) := by simp [go_sem]
    have k0_4 : (w.alloc (Obj.cells #[Value.int .i64 a0_0, Value.int .i64 a0_1, Value.int .i64 a0_2, Value.slice a0_3 n0_3 c0_3, Value.int .i64 a0_4, Value.int .i64 a0_5, Value.int .i64 a0_6, Value.int .i64 a0_7, Value.int .i64 a0_8, Value.slice a0_9 n0_9 c0_9] 81)).cell? ⟨w.heap.size, 4, none⟩ = some (.int .i64 a0_4) := by simp [go_sem]
    have k0_5 : (w.alloc (Obj.cells #[Value.int .i64 a0_0, Value.int .i64 a0_1, Value.int .i64 a0_2, Value.slice a0_3 n0_3 c0_3, Value.int .i64 a0_4, Value.int .i64 a0_5, Value.int .i64 a0_6, Value.int .i64 a0_7, Value.int .i64 a0_8, Value.slice a0_9 n0_9 c0_9] 81)).cell? ⟨w.heap.size, 5, none⟩ = some (.int .i64 a0_5) := by simp [go_sem]
    have k0_6 : (w.alloc (Obj.cells #[Value.int .i64 a0_0, Value.int .i64 a0_1, Value.int .i64 a0_2, Value.slice a0_3 n0_3 c0_3, Value.int .i64 a0_4, Value.int .i64 a0_5, Value.int .i64 a0_6, Value.int .i64 a0_7, Value.int .i64 a0_8, Value.slice a0_9 n0_9 c0_9] 81)).cell? ⟨w.heap.size, 6, none⟩ = some (.int .i64 a0_6) := by simp [go_sem]
    have k0_7 : (w.alloc (Obj.cells #[Value.int .i64 a0_0, Value.int .i64 a0_1, Value.int .i64 a0_2, Value.slice a0_3 n0_3 c0_3, Value.int .i64 a0_4, Value.int .i64 a0_5, Value.int .i64 a0_6, Value.int .i64 a0_7, Value.int .i64 a0_8, Value.slice a0_9 n0_9 c0_9] 81)).cell? ⟨w.heap.size, 7, none⟩ = some (.int .i64 a0_7) := by simp [go_sem]
    have k0_8 : (w.alloc (Obj.cells #[Value.int .i64 a0_0, Value.int .i64 a0_1, Value.int .i64 a0_2, Value.slice a0_3 n0_3 c0_3, Value.int .i64 a0_4, Value.int .i64 a0_5, Value.int .i64 a0_6, Value.int .i64 a0_7, Value.int .i64 a0_8, Value.slice a0_9 n0_9 c0_9] 81)).cell? ⟨w.heap.size, 8, none⟩ = some (.int .i64 a0_8) := by simp [go_sem]
    have k0_9 : (w.alloc (Obj.cells #[Value.int .i64 a0_0, Value.int .i64 a0_1, Value.int .i64 a0_2, Value.slice a0_3 n0_3 c0_3, Value.int .i64 a0_4, Value.int .i64 a0_5, Value.int .i64 a0_6, Value.int .i64 a0_7, Value.int .i64 a0_8, Value.slice a0_9 n0_9 c0_9] 81)).cell? ⟨w.heap.size, 9, none⟩ = some (.slice a0_9 n0_9 c0_9) := by simp [go_sem]
    refine (szPacketB _ _ _ _ _ _ _ _ _ _ _ _ _ _ z0_3 w.heap.size _ _ (h0_3.mk M0 (Nat.le_refl _) (.inr (Nat.le_refl _))) M0.size (by omega) (by omega) (by omega) m0_3 m0_9).mono ?_
    rintro e w1 ⟨rfl, m1⟩
    go_wp2_with fail
    go_ret
    exact ⟨rfl, (M0.trans m1).below0⟩
  have hn0 : ((szPathPart z0_3 n0_3 : Nat) : Int) + (n0_9 : Int) ≤ (1048576 : Int) := by omega
  clear hbig0
  go_enter Try.func10, Try.ntmps10
  go_wp2_with fail
  have M0 : Mk0 w (w.alloc (Obj.cells #[Value.int .i64 a0_0, Value.int .i64 a0_1, Value.int .i64 a0_2, Value.slice a0_3 n0_3 c0_3, Value.int .i64 a0_4, Value.int .i64 a0_5, Value.int .i64 a0_6, Value.int .i64 a0_7, Value.int .i64 a0_8, Value.slice a0_9 n0_9 c0_9] 81)) := (Mk.alloc w _)
  have k0_0 : (w.alloc (Obj.cells #[Value.int .i64 a0_0, Value.int .i64 a0_1, Value.int .i64 a0_2, Value.slice a0_3 n0_3 c0_3, Value.int .i64 a0_4, Value.int .i64 a0_5, Value.int .i64 a0_6, Value.int .i64 a0_7, Value.int .i64 a0_8, Value.slice a0_9 n0_9 c0_9] 81)).cell? ⟨w.heap.size, 0, none⟩ = some (.int .i64 a0_0) := by simp [go_sem]
  have k0_1 : (w.alloc (Obj.cells #[Value.int .i64 a0_0, Value.int .i64 a0_1, Value.int .i64 a0_2, Value.slice a0_3 n0_3 c0_3, Value.int .i64 a0_4, Value.int .i64 a0_5, Value.int .i64 a0_6, Value.int .i64 a0_7, Value.int .i64 a0_8, Value.slice a0_9 n0_9 c0_9] 81)).cell? ⟨w.heap.size, 1, none⟩ = some (.int .i64 a0_1) := by simp [go_sem]
  have k0_2 : (w.alloc (Obj.cells #[Value.int .i64 a0_0, Value.int .i64 a0_1, Value.int .i64 a0_2, Value.slice a0_3 n0_3 c0_3, Value.int .i64 a0_4, Value.int .i64 a0_5, Value.int .i64 a0_6, Value.int .i64 a0_7, Value.int .i64 a0_8, Value.slice a0_9 n0_9 c0_9] 81)).cell? ⟨w.heap.size, 2, none⟩ = some (.int .i64 a0_2) := by simp [go_sem]
  have k0_3 : (w.alloc (Obj.cells #[Value.int .i64 a0_0, Value.int .i64 a0_1, Value.int .i64 a0_2, Value.slice a0_3 n0_3 c0_3, Value.int .i64 a0_4, Value.int .i64 a0_5, Value.int .i64 a0_6, Value.int .i64 a0_7, Value.int .i64 a0_8, Value.slice a0_9 n0_9 c0_9] 81)).cell? ⟨w.heap.size, 3, none⟩ = some (.slice a0_3 n0_3 c0_3) := by simp [go_sem]
  have k0_4 : (w.alloc (Obj.cells #[Value.int .i64 a0_0, Value.int .i64 a0_1, Value.int .i64 a0_2, Value.slice a0_3 n0_3 c0_3, Value.int .i64 a0_4, Value.int .i64 a0_5, Value.int .i64 a0_6, Value.int .i64 a0_7, Value.int .i64 a0_8, Value.slice a0_9 n0_9 c0_9] 81)).cell? ⟨w.heap.size, 4, none⟩ = some (.int .i64 a0_4) := by simp [go_sem]
  have k0_5 : (w.alloc (Obj.cells #[Value.int .i64 a0_0, Value.int .i64 a0_1, Value.int .i64 a0_2, Value.slice a0_3 n0_3 c0_3, Value.int .i64 a0_4, Value.int .i64 a0_5, Value.int .i64 a0_6, Value.int .i64 a0_7, Value.int .i64 a0_8, Value.slice a0_9 n0_9 c0_9] 81)).cell? ⟨w.heap.size, 5, none⟩ = some (.int .i64 a0_5) := by simp [go_sem]
  have k0_6 : (w.alloc (Obj.cells #[Value.int .i64 a0_0, Value.int .i64 a0_1, Value.int .i64 a0_2, Value.slice a0_3 n0_3 c0_3, Value.int .i64 a0_4, Value.int .i64 a0_5, Value.int .i64 a0_6, Value.int .i64 a0_7, Value.int .i64 a0_8, Value.slice a0_9 n0_9 c0_9] 81)).cell? ⟨w.heap.size, 6, none⟩ = some (.int .i64 a0_6) := by simp [go_sem]
  have k0_7 : (w.alloc (Obj.cells #[Value.int .i64 a0_0, Value.int .i64 a0_1, Value.int .i64 a0_2, Value.slice a0_3 n0_3 c0_3, Value.int .i64 a0_4, Value.int .i64 a0_5, Value.int .i64 a0_6, Value.int .i64 a0_7, Value.int .i64 a0_8, Value.slice a0_9 n0_9 c0_9] 81)).cell? ⟨w.heap.size, 7, none⟩ = some (.int .i64 a0_7) := by simp [go_sem]
  have k0_8 : (w.alloc (Obj.cells #[Value.int .i64 a0_0, Value.int .i64 a0_1, Value.int .i64 a0_2, Value.slice a0_3 n0_3 c0_3, Value.int .i64 a0_4, Value.int .i64 a0_5, Value.int .i64 a0_6, Value.int .i64 a0_7, Value.int .i64 a0_8, Value.slice a0_9 n0_9 c0_9] 81)).cell? ⟨w.heap.size, 8, none⟩ = some (.int .i64 a0_8) := by simp [go_sem]
  have k0_9 : (w.alloc (Obj.cells #[Value.int .i64 a0_0, Value.int .i64 a0_1, Value.int .i64 a0_2, Value.slice a0_3 n0_3 c0_3, Value.int .i64 a0_4, Value.int .i64 a0_5, Value.int .i64 a0_6, Value.int .i64 a0_7, Value.int .i64 a0_8, Value.slice a0_9 n0_9 c0_9] 81)).cell? ⟨w.heap.size, 9, none⟩ = some (.slice a0_9 n0_9 c0_9) := by simp [go_sem]
  refine (szPacketC _ _ _ _ _ _ _ _ _ _ _ _ _ _ z0_3 w.heap.size _ _ (h0_3.mk M0 (Nat.le_refl _) (.inr (Nat.le_refl _))) M0.size (by omega) (by omega) (by omega)).mono ?_
  rintro e w1 ⟨l1, hl1, rfl, m1⟩
  have M1 := M0.trans m1
  replace k0_0 := m1.cellAt k0_0
  replace k0_1 := m1.cellAt k0_1
  replace k0_2 := m1.cellAt k0_2
  replace k0_3 := m1.cellAt k0_3
  replace k0_4 := m1.cellAt k0_4
  replace k0_5 := m1.cellAt k0_5
  replace k0_6 := m1.cellAt k0_6
  replace k0_7 := m1.cellAt k0_7
  replace k0_8 := m1.cellAt k0_8
  replace k0_9 := m1.cellAt k0_9
  have z1 := m1.size
  simp only [World.size_alloc] at z1
  go_wp2_with fail
  refine (toPacketC _ _ _ _ _ _ _ _ _ _ _ _ _ _ _ _ w.heap.size _ (h0_3.mk M1 (Nat.le_refl _) (.inr (Nat.le_refl _))) (h0_9.mk M1 (Nat.le_refl _) (.inr (Nat.le_refl _))) (by omega) (by omega) (by omega)).mono ?_
  rintro e w2 ⟨b1, b2, d3, rfl, o4, o5, g6, g7, m2⟩
  have M2 := M1.trans m2
  have z2 := m2.size
  replace k0_0 := m2.cellAt k0_0
  replace k0_1 := m2.cellAt k0_1
  replace k0_2 := m2.cellAt k0_2
  replace k0_3 := m2.cellAt k0_3
  replace k0_4 := m2.cellAt k0_4
  replace k0_5 := m2.cellAt k0_5
  replace k0_6 := m2.cellAt k0_6
  replace k0_7 := m2.cellAt k0_7
  replace k0_8 := m2.cellAt k0_8
  replace k0_9 := m2.cellAt k0_9
  have h8 := o4.has.mono (B' := w2.heap.size) (by omega)
  clear o4
  have h9 := o5.has.mono (B' := w2.heap.size) (by omega)
  clear o5
  go_wp2_with fail
  refine (specEncPkR a0_0 a0_1 a0_2 a0_4 a0_5 a0_6 a0_7 a0_8 _ n0_3 _ z0_3 _ n0_9 _ _ z0_9 _ h8 (by omega) (by omega) h9 (by omega) (fun h => by cases h)).mono ?_
  rintro e w3 ⟨A3, N3, c3, rfl, hc3, ow0, m3⟩
  clear hc3
  have hbw0 : N3 ≤ 2097152 := by have h1 := ow0.1; have h2 := pkBytes_len a0_0 a0_1 a0_2 a0_4 a0_5 a0_6 a0_7 a0_8 n0_3 z0_3 n0_9 z0_9 h0_9.1 (by omega); omega
  have M3 := M2.trans m3
  have z3 := m3.size
  replace k0_0 := m3.cellAt k0_0
  replace k0_1 := m3.cellAt k0_1
  replace k0_2 := m3.cellAt k0_2
  replace k0_3 := m3.cellAt k0_3
  replace k0_4 := m3.cellAt k0_4
  replace k0_5 := m3.cellAt k0_5
  replace k0_6 := m3.cellAt k0_6
  replace k0_7 := m3.cellAt k0_7
  replace k0_8 := m3.cellAt k0_8
  replace k0_9 := m3.cellAt k0_9
  replace h8 := h8.mk m3 (by omega) (.inr (Nat.le_refl _))
  replace h9 := h9.mk m3 (by omega) (.inr (Nat.le_refl _))
  go_wp2_with fail
  refine (toPacketC _ _ _ _ _ _ _ _ _ _ _ _ _ _ _ _ w.heap.size _ (h0_3.mk M3 (Nat.le_refl _) (.inr (Nat.le_refl _))) (h0_9.mk M3 (Nat.le_refl _) (.inr (Nat.le_refl _))) (by omega) (by omega) (by omega)).mono ?_
  rintro e w4 ⟨b10, b11, d12, rfl, o13, o14, g15, g16, m4⟩
  have M4 := M3.trans m4
  have z4 := m4.size
  replace k0_0 := m4.cellAt k0_0
  replace k0_1 := m4.cellAt k0_1
  replace k0_2 := m4.cellAt k0_2
  replace k0_3 := m4.cellAt k0_3
  replace k0_4 := m4.cellAt k0_4
  replace k0_5 := m4.cellAt k0_5
  replace k0_6 := m4.cellAt k0_6
  replace k0_7 := m4.cellAt k0_7
  replace k0_8 := m4.cellAt k0_8
  replace k0_9 := m4.cellAt k0_9
  replace ow0 := ow0.mk m4 (by omega) (.inr (.inr (Nat.le_refl _)))
  have h17 := o13.has.mono (B' := w4.heap.size) (by omega)
  have h18 := o14.has.mono (B' := w4.heap.size) (by omega)
  go_wp2_with fail
  have xx0_0 : (w4.alloc (Obj.cells #[Value.int .i64 a0_0, Value.int .i64 a0_1, Value.int .i64 a0_2, Value.slice (some ⟨b10, 0, none⟩) n0_3 n0_3, Value.int .i64 a0_4, Value.int .i64 a0_5, Value.int .i64 a0_6, Value.int .i64 a0_7, Value.int .i64 a0_8, Value.slice (some ⟨b11, 0, none⟩) n0_9 n0_9] 69)).cell? ⟨w4.heap.size, 0, none⟩ = some (.int .i64 a0_0) := by rw [World.cell?_alloc_at _ _ _ _ rfl]; rfl
  have xx0_1 : (w4.alloc (Obj.cells #[Value.int .i64 a0_0, Value.int .i64 a0_1, Value.int .i64 a0_2, Value.slice (some ⟨b10, 0, none⟩) n0_3 n0_3, Value.int .i64 a0_4, Value.int .i64 a0_5, Value.int .i64 a0_6, Value.int .i64 a0_7, Value.int .i64 a0_8, Value.slice (some ⟨b11, 0, none⟩) n0_9 n0_9] 69)).cell? ⟨w4.heap.size, 1, none⟩ = some (.int .i64 a0_1) := by rw [World.cell?_alloc_at _ _ _ _ rfl]; rfl
  have xx0_2 : (w4.alloc (Obj.cells #[Value.int .i64 a0_0, Value.int .i64 a0_1, Value.int .i64 a0_2, Value.slice (some ⟨b10, 0, none⟩) n0_3 n0_3, Value.int .i64 a0_4, Value.int .i64 a0_5, Value.int .i64 a0_6, Value.int .i64 a0_7, Value.int .i64 a0_8, Value.slice (some ⟨b11, 0, none⟩) n0_9 n0_9] 69)).cell? ⟨w4.heap.size, 2, none⟩ = some (.int .i64 a0_2) := by rw [World.cell?_alloc_at _ _ _ _ rfl]; rfl
  have xx0_3 : (w4.alloc (Obj.cells #[Value.int .i64 a0_0, Value.int .i64 a0_1, Value.int .i64 a0_2, Value.slice (some ⟨b10, 0, none⟩) n0_3 n0_3, Value.int .i64 a0_4, Value.int .i64 a0_5, Value.int .i64 a0_6, Value.int .i64 a0_7, Value.int .i64 a0_8, Value.slice (some ⟨b11, 0, none⟩) n0_9 n0_9] 69)).cell? ⟨w4.heap.size, 3, none⟩ = some (.slice (some ⟨b10, 0, none⟩) n0_3 n0_3) := by rw [World.cell?_alloc_at _ _ _ _ rfl]; rfl
  have xx0_4 : (w4.alloc (Obj.cells #[Value.int .i64 a0_0, Value.int .i64 a0_1, Value.int .i64 a0_2, Value.slice (some ⟨b10, 0, none⟩) n0_3 n0_3, Value.int .i64 a0_4, Value.int .i64 a0_5, Value.int .i64 a0_6, Value.int .i64 a0_7, Value.int .i64 a0_8, Value.slice (some ⟨b11, 0, none⟩) n0_9 n0_9] 69)).cell? ⟨w4.heap.size, 4, none⟩ = some (.int .i64 a0_4) := by rw [World.cell?_alloc_at _ _ _ _ rfl]; rfl
  have xx0_5 : (w4.alloc (Obj.cells #[Value.int .i64 a0_0, Value.int .i64 a0_1, Value.int .i64 a0_2, Value.slice (some ⟨b10, 0, none⟩) n0_3 n0_3, Value.int .i64 a0_4, Value.int .i64 a0_5, Value.int .i64 a0_6, Value.int .i64 a0_7, Value.int .i64 a0_8, Value.slice (some ⟨b11, 0, none⟩) n0_9 n0_9] 69)).cell? ⟨w4.heap.size, 5, none⟩ = some (.int .i64 a0_5) := by rw [World.cell?_alloc_at _ _ _ _ rfl]; rfl
  have xx0_6 : (w4.alloc (Obj.cells #[Value.int .i64 a0_0, Value.int .i64 a0_1, Value.int .i64 a0_2, Value.slice (some ⟨b10, 0, none⟩) n0_3 n0_3, Value.int .i64 a0_4, Value.int .i64 a0_5, Value.int .i64 a0_6, Value.int .i64 a0_7, Value.int .i64 a0_8, Value.slice (some ⟨b11, 0, none⟩) n0_9 n0_9] 69)).cell? ⟨w4.heap.size, 6, none⟩ = some (.int .i64 a0_6) := by rw [World.cell?_alloc_at _ _ _ _ rfl]; rfl
  have xx0_7 : (w4.alloc (Obj.cells #[Value.int .i64 a0_0, Value.int .i64 a0_1, Value.int .i64 a0_2, Value.slice (some ⟨b10, 0, none⟩) n0_3 n0_3, Value.int .i64 a0_4, Value.int .i64 a0_5, Value.int .i64 a0_6, Value.int .i64 a0_7, Value.int .i64 a0_8, Value.slice (some ⟨b11, 0, none⟩) n0_9 n0_9] 69)).cell? ⟨w4.heap.size, 7, none⟩ = some (.int .i64 a0_7) := by rw [World.cell?_alloc_at _ _ _ _ rfl]; rfl
  have xx0_8 : (w4.alloc (Obj.cells #[Value.int .i64 a0_0, Value.int .i64 a0_1, Value.int .i64 a0_2, Value.slice (some ⟨b10, 0, none⟩) n0_3 n0_3, Value.int .i64 a0_4, Value.int .i64 a0_5, Value.int .i64 a0_6, Value.int .i64 a0_7, Value.int .i64 a0_8, Value.slice (some ⟨b11, 0, none⟩) n0_9 n0_9] 69)).cell? ⟨w4.heap.size, 8, none⟩ = some (.int .i64 a0_8) := by rw [World.cell?_alloc_at _ _ _ _ rfl]; rfl
  have xx0_9 : (w4.alloc (Obj.cells #[Value.int .i64 a0_0, Value.int .i64 a0_1, Value.int .i64 a0_2, Value.slice (some ⟨b10, 0, none⟩) n0_3 n0_3, Value.int .i64 a0_4, Value.int .i64 a0_5, Value.int .i64 a0_6, Value.int .i64 a0_7, Value.int .i64 a0_8, Value.slice (some ⟨b11, 0, none⟩) n0_9 n0_9] 69)).cell? ⟨w4.heap.size, 9, none⟩ = some (.slice (some ⟨b11, 0, none⟩) n0_9 n0_9) := by rw [World.cell?_alloc_at _ _ _ _ rfl]; rfl
  have m5 := Mk.alloc w4 (Obj.cells #[Value.int .i64 a0_0, Value.int .i64 a0_1, Value.int .i64 a0_2, Value.slice (some ⟨b10, 0, none⟩) n0_3 n0_3, Value.int .i64 a0_4, Value.int .i64 a0_5, Value.int .i64 a0_6, Value.int .i64 a0_7, Value.int .i64 a0_8, Value.slice (some ⟨b11, 0, none⟩) n0_9 n0_9] 69)
  replace k0_0 := m5.cellAt k0_0
  replace k0_1 := m5.cellAt k0_1
  replace k0_2 := m5.cellAt k0_2
  replace k0_3 := m5.cellAt k0_3
  replace k0_4 := m5.cellAt k0_4
  replace k0_5 := m5.cellAt k0_5
  replace k0_6 := m5.cellAt k0_6
  replace k0_7 := m5.cellAt k0_7
  replace k0_8 := m5.cellAt k0_8
  replace k0_9 := m5.cellAt k0_9
  replace h17 := h17.mk m5 (by omega) (.inr (Nat.le_refl _))
  replace h18 := h18.mk m5 (by omega) (.inr (Nat.le_refl _))
  replace o13 := o13.mk m5 (by omega) (.inr (.inr (Nat.le_refl _)))
  replace o14 := o14.mk m5 (by omega) (.inr (.inr (Nat.le_refl _)))
  replace ow0 := ow0.mk m5 (by omega) (.inr (.inr (Nat.le_refl _)))
  have M5 := M4.trans m5
  have z5 := m5.size
  have zz5 : w4.heap.size < (w4.alloc (Obj.cells #[Value.int .i64 a0_0, Value.int .i64 a0_1, Value.int .i64 a0_2, Value.slice (some ⟨b10, 0, none⟩) n0_3 n0_3, Value.int .i64 a0_4, Value.int .i64 a0_5, Value.int .i64 a0_6, Value.int .i64 a0_7, Value.int .i64 a0_8, Value.slice (some ⟨b11, 0, none⟩) n0_9 n0_9] 69)).heap.size := by rw [World.size_alloc]; omega
  generalize (w4.alloc (Obj.cells #[Value.int .i64 a0_0, Value.int .i64 a0_1, Value.int .i64 a0_2, Value.slice (some ⟨b10, 0, none⟩) n0_3 n0_3, Value.int .i64 a0_4, Value.int .i64 a0_5, Value.int .i64 a0_6, Value.int .i64 a0_7, Value.int .i64 a0_8, Value.slice (some ⟨b11, 0, none⟩) n0_9 n0_9] 69)) = w5 at *
  refine (implEncPkR a0_0 a0_1 a0_2 a0_4 a0_5 a0_6 a0_7 a0_8 _ n0_3 _ z0_3 _ n0_9 _ _ z0_9 _ h17 (by omega) (by omega) h18 (by omega) (fun h => by cases h)).mono ?_
  rintro e w6 ⟨A6, N6, c6, rfl, hc6, og0, m6⟩
  clear hc6
  obtain rfl : N3 = N6 := ow0.1.symm.trans og0.1
  have M6 := M5.trans m6
  have z6 := m6.size
  replace k0_0 := m6.cellAt k0_0
  replace k0_1 := m6.cellAt k0_1
  replace k0_2 := m6.cellAt k0_2
  replace k0_3 := m6.cellAt k0_3
  replace k0_4 := m6.cellAt k0_4
  replace k0_5 := m6.cellAt k0_5
  replace k0_6 := m6.cellAt k0_6
  replace k0_7 := m6.cellAt k0_7
  replace k0_8 := m6.cellAt k0_8
  replace k0_9 := m6.cellAt k0_9
  replace xx0_0 := m6.cellAt xx0_0
  replace xx0_1 := m6.cellAt xx0_1
  replace xx0_2 := m6.cellAt xx0_2
  replace xx0_3 := m6.cellAt xx0_3
  replace xx0_4 := m6.cellAt xx0_4
  replace xx0_5 := m6.cellAt xx0_5
  replace xx0_6 := m6.cellAt xx0_6
  replace xx0_7 := m6.cellAt xx0_7
  replace xx0_8 := m6.cellAt xx0_8
  replace xx0_9 := m6.cellAt xx0_9
  replace h17 := h17.mk m6 (by omega) (.inr (Nat.le_refl _))
  replace h18 := h18.mk m6 (by omega) (.inr (Nat.le_refl _))
  replace o13 := o13.mk m6 (by omega) (.inr (.inr (Nat.le_refl _)))
  replace o14 := o14.mk m6 (by omega) (.inr (.inr (Nat.le_refl _)))
  replace ow0 := ow0.mk m6 (by omega) (.inr (.inr (Nat.le_refl _)))
  go_wp2_with fail
  refine (eqByteS _ _ _ _ _ _ _ _ _ og0.has ow0.has (by omega) (by omega) (by omega)).mono ?_
  rintro e w7 ⟨rfl, m7⟩
  have M7 := M6.trans m7
  have z7 := m7.size
  replace k0_0 := m7.cellAt k0_0
  replace k0_1 := m7.cellAt k0_1
  replace k0_2 := m7.cellAt k0_2
  replace k0_3 := m7.cellAt k0_3
  replace k0_4 := m7.cellAt k0_4
  replace k0_5 := m7.cellAt k0_5
  replace k0_6 := m7.cellAt k0_6
  replace k0_7 := m7.cellAt k0_7
  replace k0_8 := m7.cellAt k0_8
  replace k0_9 := m7.cellAt k0_9
  replace xx0_0 := m7.cellAt xx0_0
  replace xx0_1 := m7.cellAt xx0_1
  replace xx0_2 := m7.cellAt xx0_2
  replace xx0_3 := m7.cellAt xx0_3
  replace xx0_4 := m7.cellAt xx0_4
  replace xx0_5 := m7.cellAt xx0_5
  replace xx0_6 := m7.cellAt xx0_6
  replace xx0_7 := m7.cellAt xx0_7
  replace xx0_8 := m7.cellAt xx0_8
  replace xx0_9 := m7.cellAt xx0_9
  replace h17 := h17.mk m7 (by omega) (.inr (Nat.le_refl _))
  replace h18 := h18.mk m7 (by omega) (.inr (Nat.le_refl _))
  replace o13 := o13.mk m7 (by omega) (.inr (.inr (Nat.le_refl _)))
  replace o14 := o14.mk m7 (by omega) (.inr (.inr (Nat.le_refl _)))
  replace ow0 := ow0.mk m7 (by omega) (.inr (.inr (Nat.le_refl _)))
  replace og0 := og0.mk m7 (by omega) (.inr (.inr (Nat.le_refl _)))
  go_wp2_with fail
  have e19 : ∀ w', Mk0 w7 w' → HasPathPart w' w4.heap.size (some ⟨b10, 0, none⟩) n0_3 z0_3 := fun w' m => h17.mk m (by omega) (.inr (Nat.le_refl _))
  have e20 : ∀ w', Mk0 w7 w' → HasByte w' w4.heap.size (some ⟨b11, 0, none⟩) n0_9 z0_9 := fun w' m => h18.mk m (by omega) (.inr (Nat.le_refl _))
  have e21 : ∀ w', Mk0 w7 w' → w4.heap.size ≤ w'.heap.size := fun w' m => Nat.le_trans (by omega) m.size
  have e22 : ∀ w', Mk0 w7 w' → HasPathPart w' w.heap.size a0_3 n0_3 z0_3 := fun w' m => h0_3.mk (M7.trans m) (Nat.le_refl _) (.inr (Nat.le_refl _))
  have e23 : ∀ w', Mk0 w7 w' → HasByte w' w.heap.size a0_9 n0_9 z0_9 := fun w' m => h0_9.mk (M7.trans m) (Nat.le_refl _) (.inr (Nat.le_refl _))
  have hN0_3 : szPathPart z0_3 n0_3 ≤ 1048576 := by omega
  have hN0_9 : n0_9 ≤ 1048576 := by omega
  go_region_held3 (fun w' => Mk0 w7 w' ∧ w'.cell? ⟨w.heap.size, 0, none⟩ = some (.int .i64 a0_0) ∧ w'.cell? ⟨w.heap.size, 1, none⟩ = some (.int .i64 a0_1) ∧ w'.cell? ⟨w.heap.size, 2, none⟩ = some (.int .i64 a0_2) ∧ w'.cell? ⟨w.heap.size, 3, none⟩ = some (.slice a0_3 n0_3 c0_3) ∧ w'.cell? ⟨w.heap.size, 4, none⟩ = some (.int .i64 a0_4) ∧ w'.cell? ⟨w.heap.size, 5, none⟩ = some (.int .i64 a0_5) ∧ w'.cell? ⟨w.heap.size, 6, none⟩ = some (.int .i64 a0_6) ∧ w'.cell? ⟨w.heap.size, 7, none⟩ = some (.int .i64 a0_7) ∧ w'.cell? ⟨w.heap.size, 8, none⟩ = some (.int .i64 a0_8) ∧ w'.cell? ⟨w.heap.size, 9, none⟩ = some (.slice a0_9 n0_9 c0_9) ∧ w'.cell? ⟨w4.heap.size, 0, none⟩ = some (.int .i64 a0_0) ∧ w'.cell? ⟨w4.heap.size, 1, none⟩ = some (.int .i64 a0_1) ∧ w'.cell? ⟨w4.heap.size, 2, none⟩ = some (.int .i64 a0_2) ∧ w'.cell? ⟨w4.heap.size, 3, none⟩ = some (.slice (some ⟨b10, 0, none⟩) n0_3 n0_3) ∧ w'.cell? ⟨w4.heap.size, 4, none⟩ = some (.int .i64 a0_4) ∧ w'.cell? ⟨w4.heap.size, 5, none⟩ = some (.int .i64 a0_5) ∧ w'.cell? ⟨w4.heap.size, 6, none⟩ = some (.int .i64 a0_6) ∧ w'.cell? ⟨w4.heap.size, 7, none⟩ = some (.int .i64 a0_7) ∧ w'.cell? ⟨w4.heap.size, 8, none⟩ = some (.int .i64 a0_8) ∧ w'.cell? ⟨w4.heap.size, 9, none⟩ = some (.slice (some ⟨b11, 0, none⟩) n0_9 n0_9)) (first | exact ⟨Mk.drew1 _, k0_0, k0_1, k0_2, k0_3, k0_4, k0_5, k0_6, k0_7, k0_8, k0_9, xx0_0, xx0_1, xx0_2, xx0_3, xx0_4, xx0_5, xx0_6, xx0_7, xx0_8, xx0_9⟩ | (obtain ⟨s0, s1, s2, s3, s4, s5, s6, s7, s8, s9, s10, s11, s12, s13, s14, s15, s16, s17, s18, s19, s20⟩ := ‹Mk0 w7 _ ∧ _›; exact ⟨s0.trans mm, mm.cellAt s1, mm.cellAt s2, mm.cellAt s3, mm.cellAt s4, mm.cellAt s5, mm.cellAt s6, mm.cellAt s7, mm.cellAt s8, mm.cellAt s9, mm.cellAt s10, mm.cellAt s11, mm.cellAt s12, mm.cellAt s13, mm.cellAt s14, mm.cellAt s15, mm.cellAt s16, mm.cellAt s17, mm.cellAt s18, mm.cellAt s19, mm.cellAt s20⟩)) (first | (go_at_call 51; refine (toPacketC _ _ _ _ _ _ _ _ _ _ _ _ _ _ _ _ w.heap.size _ (e22 _ (‹Mk0 w7 _ ∧ _›).1) (e23 _ (‹Mk0 w7 _ ∧ _›).1) (M7.trans (‹Mk0 w7 _ ∧ _›).1).size hN0_3 hN0_9).mono ?_; rintro e wa ⟨bb0, bb1, dd0, rfl, oo0, oo1, gg0, gg1, mm⟩) | (go_at_call 42; refine (eqPacketC _ _ _ _ _ _ _ _ _ _ _ _ _ _ _ _ _ _ _ _ _ _ _ (e19 _ (‹Mk0 w7 _ ∧ _›).1) (e20 _ (‹Mk0 w7 _ ∧ _›).1) (oo0.has.mono gg1) (oo1.has.mono (Nat.le_refl _)) (e21 _ (‹Mk0 w7 _ ∧ _›).1) (Nat.le_refl _) hN0_3 hN0_9).mono ?_; rintro e wb8 ⟨rfl, mm⟩))
  obtain ⟨m8, k0_0, k0_1, k0_2, k0_3, k0_4, k0_5, k0_6, k0_7, k0_8, k0_9, xx0_0, xx0_1, xx0_2, xx0_3, xx0_4, xx0_5, xx0_6, xx0_7, xx0_8, xx0_9⟩ := ‹Mk0 w7 _ ∧ _›
  clear e19 e20 e21 e22 e23 hN0_3 hN0_9
  refine ‹∀ (a : Act) (w : World), _ → _› _ _ ?_
  have M8 := M7.trans m8
  have z8 := m8.size
  replace h17 := h17.mk m8 (by omega) (.inr (Nat.le_refl _))
  replace h18 := h18.mk m8 (by omega) (.inr (Nat.le_refl _))
  replace o13 := o13.mk m8 (by omega) (.inr (.inr (Nat.le_refl _)))
  replace o14 := o14.mk m8 (by omega) (.inr (.inr (Nat.le_refl _)))
  replace ow0 := ow0.mk m8 (by omega) (.inr (.inr (Nat.le_refl _)))
  replace og0 := og0.mk m8 (by omega) (.inr (.inr (Nat.le_refl _)))
  go_wp2_with fail
  refine (markPacketC _ _ _ _ _ _ _ _ _ _ _ _ _ _ _ _ w3.heap.size d12 w4.heap.size _ _ o13 o14 (by omega) (by omega) (by omega) (by omega) (by omega) (by omega) (by omega)).mono ?_
  rintro e w9 ⟨l9, hl9, rfl, m9⟩
  have M9 := M8.andR m9 (.inl (by omega))
  have z9 := m9.size
  replace k0_0 := m9.cellAtR k0_0 (by omega)
  replace k0_1 := m9.cellAtR k0_1 (by omega)
  replace k0_2 := m9.cellAtR k0_2 (by omega)
  replace k0_3 := m9.cellAtR k0_3 (by omega)
  replace k0_4 := m9.cellAtR k0_4 (by omega)
  replace k0_5 := m9.cellAtR k0_5 (by omega)
  replace k0_6 := m9.cellAtR k0_6 (by omega)
  replace k0_7 := m9.cellAtR k0_7 (by omega)
  replace k0_8 := m9.cellAtR k0_8 (by omega)
  replace k0_9 := m9.cellAtR k0_9 (by omega)
  replace xx0_0 := m9.cellAtR xx0_0 (by omega)
  replace xx0_1 := m9.cellAtR xx0_1 (by omega)
  replace xx0_2 := m9.cellAtR xx0_2 (by omega)
  replace xx0_3 := m9.cellAtR xx0_3 (by omega)
  replace xx0_4 := m9.cellAtR xx0_4 (by omega)
  replace xx0_5 := m9.cellAtR xx0_5 (by omega)
  replace xx0_6 := m9.cellAtR xx0_6 (by omega)
  replace xx0_7 := m9.cellAtR xx0_7 (by omega)
  replace xx0_8 := m9.cellAtR xx0_8 (by omega)
  replace xx0_9 := m9.cellAtR xx0_9 (by omega)
  replace ow0 := ow0.mk m9 (by omega) (by omega)
  replace og0 := og0.mk m9 (by omega) (by omega)
  go_wp2_with fail
  refine (eqByteS _ _ _ _ _ _ _ _ _ og0.has ow0.has (by omega) (by omega) (by omega)).mono ?_
  rintro e w10 ⟨rfl, m10⟩
  have M10 := M9.trans m10
  have z10 := m10.size
  replace k0_0 := m10.cellAt k0_0
  replace k0_1 := m10.cellAt k0_1
  replace k0_2 := m10.cellAt k0_2
  replace k0_3 := m10.cellAt k0_3
  replace k0_4 := m10.cellAt k0_4
  replace k0_5 := m10.cellAt k0_5
  replace k0_6 := m10.cellAt k0_6
  replace k0_7 := m10.cellAt k0_7
  replace k0_8 := m10.cellAt k0_8
  replace k0_9 := m10.cellAt k0_9
  replace xx0_0 := m10.cellAt xx0_0
  replace xx0_1 := m10.cellAt xx0_1
  replace xx0_2 := m10.cellAt xx0_2
  replace xx0_3 := m10.cellAt xx0_3
  replace xx0_4 := m10.cellAt xx0_4
  replace xx0_5 := m10.cellAt xx0_5
  replace xx0_6 := m10.cellAt xx0_6
  replace xx0_7 := m10.cellAt xx0_7
  replace xx0_8 := m10.cellAt xx0_8
  replace xx0_9 := m10.cellAt xx0_9
  replace ow0 := ow0.mk m10 (by omega) (.inr (.inr (Nat.le_refl _)))
  replace og0 := og0.mk m10 (by omega) (.inr (.inr (Nat.le_refl _)))
  go_wp2_with fail
  refine (markByteM _ _ _ w5.heap.size w6.heap.size _ _ _ og0 (by omega) (by omega) (by omega)).mono ?_
  rintro e w11 ⟨rfl, oo11, m11⟩
  replace og0 := oo11
  clear oo11
  have M11 := M10.andR m11 (.inl (by omega))
  have z11 := m11.size
  replace k0_0 := m11.cellAtR k0_0 (by omega)
  replace k0_1 := m11.cellAtR k0_1 (by omega)
  replace k0_2 := m11.cellAtR k0_2 (by omega)
  replace k0_3 := m11.cellAtR k0_3 (by omega)
  replace k0_4 := m11.cellAtR k0_4 (by omega)
  replace k0_5 := m11.cellAtR k0_5 (by omega)
  replace k0_6 := m11.cellAtR k0_6 (by omega)
  replace k0_7 := m11.cellAtR k0_7 (by omega)
  replace k0_8 := m11.cellAtR k0_8 (by omega)
  replace k0_9 := m11.cellAtR k0_9 (by omega)
  replace xx0_0 := m11.cellAtR xx0_0 (by omega)
  replace xx0_1 := m11.cellAtR xx0_1 (by omega)
  replace xx0_2 := m11.cellAtR xx0_2 (by omega)
  replace xx0_3 := m11.cellAtR xx0_3 (by omega)
  replace xx0_4 := m11.cellAtR xx0_4 (by omega)
  replace xx0_5 := m11.cellAtR xx0_5 (by omega)
  replace xx0_6 := m11.cellAtR xx0_6 (by omega)
  replace xx0_7 := m11.cellAtR xx0_7 (by omega)
  replace xx0_8 := m11.cellAtR xx0_8 (by omega)
  replace xx0_9 := m11.cellAtR xx0_9 (by omega)
  replace ow0 := ow0.mk m11 (by omega) (by omega)
  go_wp2_with fail
  refine (heldByteM _ _ _ _ _ _ og0.has (by omega) (by omega) (by omega)).mono ?_
  rintro e w' ⟨rfl, rfl⟩
  go_wp2_with fail
  refine (toPacketC _ _ _ _ _ _ _ _ _ _ _ _ _ _ _ _ w.heap.size _ (h0_3.mk M11 (Nat.le_refl _) (.inr (Nat.le_refl _))) (h0_9.mk M11 (Nat.le_refl _) (.inr (Nat.le_refl _))) (by omega) (by omega) (by omega)).mono ?_
  rintro e w12 ⟨b24, b25, d26, rfl, o27, o28, g29, g30, m12⟩
  have M12 := M11.trans m12
  have z12 := m12.size
  replace k0_0 := m12.cellAt k0_0
  replace k0_1 := m12.cellAt k0_1
  replace k0_2 := m12.cellAt k0_2
  replace k0_3 := m12.cellAt k0_3
  replace k0_4 := m12.cellAt k0_4
  replace k0_5 := m12.cellAt k0_5
  replace k0_6 := m12.cellAt k0_6
  replace k0_7 := m12.cellAt k0_7
  replace k0_8 := m12.cellAt k0_8
  replace k0_9 := m12.cellAt k0_9
  replace xx0_0 := m12.cellAt xx0_0
  replace xx0_1 := m12.cellAt xx0_1
  replace xx0_2 := m12.cellAt xx0_2
  replace xx0_3 := m12.cellAt xx0_3
  replace xx0_4 := m12.cellAt xx0_4
  replace xx0_5 := m12.cellAt xx0_5
  replace xx0_6 := m12.cellAt xx0_6
  replace xx0_7 := m12.cellAt xx0_7
  replace xx0_8 := m12.cellAt xx0_8
  replace xx0_9 := m12.cellAt xx0_9
  replace ow0 := ow0.mk m12 (by omega) (.inr (.inr (Nat.le_refl _)))
  replace og0 := og0.mk m12 (by omega) (.inr (.inr (Nat.le_refl _)))
  have h31 := o27.has.mono (B' := w12.heap.size) (by omega)
  clear o27
  have h32 := o28.has.mono (B' := w12.heap.size) (by omega)
  clear o28
  go_wp2_with fail
  refine (implEncPkR a0_0 a0_1 a0_2 a0_4 a0_5 a0_6 a0_7 a0_8 _ n0_3 _ z0_3 _ n0_9 _ _ z0_9 _ h31 (by omega) (by omega) h32 (by omega) (fun h => by cases h)).mono ?_
  rintro e w13 ⟨A13, N13, c13, rfl, hc13, oh0, m13⟩
  clear hc13
  obtain rfl : N3 = N13 := ow0.1.symm.trans oh0.1
  have M13 := M12.trans m13
  have z13 := m13.size
  replace k0_0 := m13.cellAt k0_0
  replace k0_1 := m13.cellAt k0_1
  replace k0_2 := m13.cellAt k0_2
  replace k0_3 := m13.cellAt k0_3
  replace k0_4 := m13.cellAt k0_4
  replace k0_5 := m13.cellAt k0_5
  replace k0_6 := m13.cellAt k0_6
  replace k0_7 := m13.cellAt k0_7
  replace k0_8 := m13.cellAt k0_8
  replace k0_9 := m13.cellAt k0_9
  replace xx0_0 := m13.cellAt xx0_0
  replace xx0_1 := m13.cellAt xx0_1
  replace xx0_2 := m13.cellAt xx0_2
  replace xx0_3 := m13.cellAt xx0_3
  replace xx0_4 := m13.cellAt xx0_4
  replace xx0_5 := m13.cellAt xx0_5
  replace xx0_6 := m13.cellAt xx0_6
  replace xx0_7 := m13.cellAt xx0_7
  replace xx0_8 := m13.cellAt xx0_8
  replace xx0_9 := m13.cellAt xx0_9
  replace h31 := h31.mk m13 (by omega) (.inr (Nat.le_refl _))
  replace h32 := h32.mk m13 (by omega) (.inr (Nat.le_refl _))
  replace ow0 := ow0.mk m13 (by omega) (.inr (.inr (Nat.le_refl _)))
  replace og0 := og0.mk m13 (by omega) (.inr (.inr (Nat.le_refl _)))
  go_wp2_with fail
  refine (eqByteS _ _ _ _ _ _ _ _ _ oh0.has ow0.has (by omega) (by omega) (by omega)).mono ?_
  rintro e w14 ⟨rfl, m14⟩
  have M14 := M13.trans m14
  have z14 := m14.size
  replace k0_0 := m14.cellAt k0_0
  replace k0_1 := m14.cellAt k0_1
  replace k0_2 := m14.cellAt k0_2
  replace k0_3 := m14.cellAt k0_3
  replace k0_4 := m14.cellAt k0_4
  replace k0_5 := m14.cellAt k0_5
  replace k0_6 := m14.cellAt k0_6
  replace k0_7 := m14.cellAt k0_7
  replace k0_8 := m14.cellAt k0_8
  replace k0_9 := m14.cellAt k0_9
  replace xx0_0 := m14.cellAt xx0_0
  replace xx0_1 := m14.cellAt xx0_1
  replace xx0_2 := m14.cellAt xx0_2
  replace xx0_3 := m14.cellAt xx0_3
  replace xx0_4 := m14.cellAt xx0_4
  replace xx0_5 := m14.cellAt xx0_5
  replace xx0_6 := m14.cellAt xx0_6
  replace xx0_7 := m14.cellAt xx0_7
  replace xx0_8 := m14.cellAt xx0_8
  replace xx0_9 := m14.cellAt xx0_9
  replace ow0 := ow0.mk m14 (by omega) (.inr (.inr (Nat.le_refl _)))
  replace og0 := og0.mk m14 (by omega) (.inr (.inr (Nat.le_refl _)))
  replace oh0 := oh0.mk m14 (by omega) (.inr (.inr (Nat.le_refl _)))
  go_wp2_with fail
  refine (heldByteM _ _ _ _ _ _ og0.has (by omega) (by omega) (by omega)).mono ?_
  rintro e w' ⟨rfl, rfl⟩
  go_wp2_with fail
  go_ret
  exact ⟨rfl, M14.below0⟩

set_option maxRecDepth 100000 in
theorem lifted (os : Os) (started : os.Started) (H : Type) (enc : TypeId × Value → H) :
    ReturnsInHanded {} Try.checked os 10 .any (Rows.fnExactEncodePacketSpec.pre6 enc Try.prog Try.f10 Rows.fnExactEncodePacketRow.domain false) (Rows.fnExactEncodePacketSpec.post enc Try.prog Try.f10 false true false false) := by
  refine returnsInHanded_of_change (C := Try.checked) own started (by kernel_rfl) Try.func10
    (ChangeSpec.witness6 (enc := enc) (C := Try.checked) false ⟨#[], #[.agg #[.int .i64 0, .int .i64 0, .int .i64 0, .slice none 0 0, .int .i64 0, .int .i64 0, .int .i64 0, .int .i64 0, .int .i64 0, .slice none 0 0]], []⟩ 8 (by kernel_rfl) (by kernel_rfl) (by kernel_rfl) (by kernel_rfl)) ?_
  intro W base args ds gs before hval0 hW hcnd _
  have hval : ∀ (j : Nat) t v, Try.f10.params[j]? = some t → args[j]? = some v → Value.okWide Try.prog W .any base t v := hval0
  have hW' := hW
  obtain ⟨p, q, hA0, hV, rfl, hfz, hnd⟩ := hW
  have hA : DataW.TrodAll enc Try.prog W 0 (fun _ => true) true Try.f10.params.toList args.toList ds p := hA0
  rw [Try.params10] at hA hval
  obtain ⟨v0, vs0, d0, ds0, p0, q0, hargs, rfl, rfl, h0, r0⟩ := trodAll_cons hA
  obtain ⟨rfl, rfl, rfl⟩ := trodAll_nil r0
  obtain rfl : args = #[v0] := by cases args; simp_all
  obtain ⟨rfl, rfl⟩ := trodVars_none hV
  have k0 := h0
  have lt0 : ∀ x ∈ p0, x.block < W.heap.size := by obtain ⟨m, hm⟩ := k0; exact DataW.trod_lt m _ _ _ hm
  obtain ⟨cs0, rfl, hcs0, hl0⟩ := lf_open 10 Try.underlying81 (by kernel_rfl) (hval 0 81 v0 rfl rfl) h0
  have L0_0 := lf_field (a := 0) (b := 1) 0 _ Try.underlying81 rfl rfl (by kernel_rfl) (by decide) hl0
  obtain ⟨_, _, _, e0_0, q0_0⟩ := lf_leaf (o := 0) (by rw [hcs0]; decide) L0_0
  have L0_1 := lf_field (a := 1) (b := 1) 1 _ Try.underlying81 rfl rfl (by kernel_rfl) (by decide) hl0
  obtain ⟨_, _, _, e0_1, q0_1⟩ := lf_leaf (o := 1) (by rw [hcs0]; decide) L0_1
  have L0_2 := lf_field (a := 2) (b := 1) 2 _ Try.underlying81 rfl rfl (by kernel_rfl) (by decide) hl0
  obtain ⟨_, _, _, e0_2, q0_2⟩ := lf_leaf (o := 2) (by rw [hcs0]; decide) L0_2
  have L0_3 := lf_field (a := 3) (b := 1) 3 _ Try.underlying81 rfl rfl (by kernel_rfl) (by decide) hl0
  have L0_3x0 := lf_field (a := 0) (b := 1) 0 _ Try.underlying62 rfl rfl (by kernel_rfl) (by decide) L0_3
  obtain ⟨_, _, _, e0_3, q0_3⟩ := lf_leaf (o := 3) (by rw [hcs0]; decide) L0_3x0
  have L0_4 := lf_field (a := 4) (b := 1) 4 _ Try.underlying81 rfl rfl (by kernel_rfl) (by decide) hl0
  obtain ⟨_, _, _, e0_4, q0_4⟩ := lf_leaf (o := 4) (by rw [hcs0]; decide) L0_4
  have L0_5 := lf_field (a := 5) (b := 1) 5 _ Try.underlying81 rfl rfl (by kernel_rfl) (by decide) hl0
  obtain ⟨_, _, _, e0_5, q0_5⟩ := lf_leaf (o := 5) (by rw [hcs0]; decide) L0_5
  have L0_6 := lf_field (a := 6) (b := 1) 6 _ Try.underlying81 rfl rfl (by kernel_rfl) (by decide) hl0
  obtain ⟨_, _, _, e0_6, q0_6⟩ := lf_leaf (o := 6) (by rw [hcs0]; decide) L0_6
  have L0_7 := lf_field (a := 7) (b := 1) 7 _ Try.underlying81 rfl rfl (by kernel_rfl) (by decide) hl0
  obtain ⟨_, _, _, e0_7, q0_7⟩ := lf_leaf (o := 7) (by rw [hcs0]; decide) L0_7
  have L0_8 := lf_field (a := 8) (b := 1) 8 _ Try.underlying81 rfl rfl (by kernel_rfl) (by decide) hl0
  obtain ⟨_, _, _, e0_8, q0_8⟩ := lf_leaf (o := 8) (by rw [hcs0]; decide) L0_8
  have L0_9 := lf_field (a := 9) (b := 1) 9 _ Try.underlying81 rfl rfl (by kernel_rfl) (by decide) hl0
  obtain ⟨_, _, _, e0_9, q0_9⟩ := lf_leaf (o := 9) (by rw [hcs0]; decide) L0_9
  obtain ⟨a0_0, rfl, w0_0⟩ := one_int Try.underlying3 q0_0
  obtain ⟨a0_1, rfl, w0_1⟩ := one_int Try.underlying3 q0_1
  obtain ⟨a0_2, rfl, w0_2⟩ := one_int Try.underlying3 q0_2
  obtain ⟨a0_3, n0_3, c0_3, z0_3, rfl, m0_3, h0_3, f0_3⟩ := openPathPartS q0_3
  obtain ⟨a0_4, rfl, w0_4⟩ := one_int Try.underlying3 q0_4
  obtain ⟨a0_5, rfl, w0_5⟩ := one_int Try.underlying3 q0_5
  obtain ⟨a0_6, rfl, w0_6⟩ := one_int Try.underlying3 q0_6
  obtain ⟨a0_7, rfl, w0_7⟩ := one_int Try.underlying3 q0_7
  obtain ⟨a0_8, rfl, w0_8⟩ := one_int Try.underlying3 q0_8
  obtain ⟨a0_9, n0_9, c0_9, z0_9, rfl, m0_9, h0_9, f0_9⟩ := openByteS q0_9
  obtain rfl : cs0 = #[.int .i64 a0_0, .int .i64 a0_1, .int .i64 a0_2, .slice a0_3 n0_3 c0_3, .int .i64 a0_4, .int .i64 a0_5, .int .i64 a0_6, .int .i64 a0_7, .int .i64 a0_8, .slice a0_9 n0_9 c0_9] := arr_of [.int .i64 a0_0, .int .i64 a0_1, .int .i64 a0_2, .slice a0_3 n0_3 c0_3, .int .i64 a0_4, .int .i64 a0_5, .int .i64 a0_6, .int .i64 a0_7, .int .i64 a0_8, .slice a0_9 n0_9 c0_9] hcs0 (fun j hj => by match j, hj with | 0, _ => exact e0_0 | 1, _ => exact e0_1 | 2, _ => exact e0_2 | 3, _ => exact e0_3 | 4, _ => exact e0_4 | 5, _ => exact e0_5 | 6, _ => exact e0_6 | 7, _ => exact e0_7 | 8, _ => exact e0_8 | 9, _ => exact e0_9)
  clear hA0 hval0
  refine (walk a0_0 a0_1 a0_2 a0_3 n0_3 c0_3 z0_3 a0_4 a0_5 a0_6 a0_7 a0_8 a0_9 n0_9 c0_9 z0_9 W w0_0 w0_1 w0_2 h0_3 m0_3 f0_3 w0_4 w0_5 w0_6 w0_7 w0_8 h0_9 m0_9 f0_9).mono fun e W' ⟨he, bel⟩ => ?_
  subst he
  exact ⟨_, rfl, _, _, _, [], _, [], hW', trodAll_mk1 (shut_bool Try.underlying4 _), (trodAll_cons_mk (Below.trod laidOut (by kernel_rfl) (of_decide_eq_true (by kernel_rfl)) k0 bel lt0) trodAll_mk0), rfl, bel.frame _, fun h => by cases h⟩

theorem over : Rows.fnExactEncodePacketRow.holds Try.pinned (OpenSpec.ofChange Rows.fnExactEncodePacketSpec) :=
  OpenClaim.holds_of_wide 10 Try.f10 rfl rfl rfl rfl rfl rfl rfl ⟨rfl, rfl, rfl, rfl, rfl⟩ rfl rfl rfl rfl rfl (by kernel_rfl) Try.func10 (by kernel_rfl)
    (of_decide_eq_true (by kernel_rfl)) (by unfold Func.isWrapper; first | (rw [if_pos (by decide +kernel)]; kernel_rfl) | (rw [if_neg (by decide +kernel)]; exact ⟨rfl, rfl⟩))
    (fun os started H enc _ => lifted os started H enc)

theorem proved : Rows.FnExactEncodePacketSaid := over
#print axioms proved
end Go.Proofs.Ytpfjjfbheliinaa.fnExactEncodePacket
