
/- For every topology and every signed segment, the law on FirstBadSignature returns true; no further condition. -/
import Derived.Test.YtiphndgmgpiodaaRows
import Derived.WalkKit
import Derived.ProofKit
import Derived.OpenShut
import Derived.ShutString
import Derived.ChangeOld
import Derived.Below
import Derived.Test.YtiphndgmgpiodaaOAS
import Derived.Test.YtiphndgmgpiodaaZAS
import Derived.Test.YtiphndgmgpiodaaOLink
import Derived.Test.YtiphndgmgpiodaaZLink
import Derived.Test.YtiphndgmgpiodaaOHop
import Derived.Test.YtiphndgmgpiodaaZHop
import Derived.Test.YtiphndgmgpiodaaOpenN
import Derived.Test.YtiphndgmgpiodaaStruct
import Derived.Deep.RegionHeld3
import Derived.Test.YtiphndgmgpiodaaFbad
import Derived.Test.YtiphndgmgpiodaaCSignedSegment
import Derived.Test.YtiphndgmgpiodaaCTopology
namespace Go.Proofs.Ytiphndgmgpiodaa.fnExactFirstBadSignature
open Go.ChangeShapes Go.WideShapes Go.ChangeAt Go.RowKit
open Go.ChangeMaps (open_string shut_string)
set_option linter.unusedVariables false

theorem own : ownKnob Try.prog.godebug = none := by kernel_rfl
theorem laidOut : laidOutB Try.prog = true := by kernel_rfl

set_option maxRecDepth 100000 in
set_option maxHeartbeats 4000000 in
theorem walk (a0_0 : Option Addr) (n0_0 c0_0 : Nat) (z0_0 : List TAS) (a0_1 : Option Addr) (n0_1 c0_1 : Nat) (z0_1 : List TLink) (a1_0 : Int) (a1_1 : Int) (a1_2 : Option Addr) (n1_2 c1_2 : Nat) (z1_2 : List THop) (a1_3 : Option Addr) (n1_3 c1_3 : Nat) (z1_3 : List TInt) (w : World) (h0_0 : HasAS w w.heap.size a0_0 n0_0 z0_0) (m0_0 : n0_0 ≤ 9223372036854775807) (f0_0 : ∀ x ∈ z0_0, TAS.fits x) (h0_1 : HasLink w w.heap.size a0_1 n0_1 z0_1) (m0_1 : n0_1 ≤ 9223372036854775807) (f0_1 : ∀ x ∈ z0_1, TLink.fits x) (w1_0 : (Lit.int .i64 a1_0).wf = true) (w1_1 : (Lit.int .i64 a1_1).wf = true) (h1_2 : HasHop w w.heap.size a1_2 n1_2 z1_2) (m1_2 : n1_2 ≤ 9223372036854775807) (f1_2 : ∀ x ∈ z1_2, THop.fits x) (h1_3 : HasInt w w.heap.size a1_3 n1_3 z1_3) (m1_3 : n1_3 ≤ 9223372036854775807) (f1_3 : ∀ x ∈ z1_3, TInt.fits x) :
    Calls Try.prog 5 #[.agg #[.slice a0_0 n0_0 c0_0, .slice a0_1 n0_1 c0_1], .agg #[.int .i64 a1_0, .int .i64 a1_1, .slice a1_2 n1_2 c1_2, .slice a1_3 n1_3 c1_3]] w fun e w' => e = .returned (.bool true) ∧ Below w.heap.size w w' := by
  by_cases hbig0 : (1048576 : Int) < (n0_0 : Int) + (n0_1 : Int)
  · go_enter Try.func5, Try.ntmps5
    go_wp2_with fail
    have M0 : Mk0 w ((w.alloc (Obj.cells #[Value.slice a0_0 n0_0 c0_0, Value.slice a0_1 n0_1 c0_1] 42)).alloc (Obj.cells #[Value.int .i64 a1_0, Value.int .i64 a1_1, Value.slice a1_2 n1_2 c1_2, Value.slice a1_3 n1_3 c1_3] 48)) := ((Mk.alloc w _).new _)
    have k0_0 : ((w.alloc (Obj.cells #[Value.slice a0_0 n0_0 c0_0, Value.slice a0_1 n0_1 c0_1] 42)).alloc (Obj.cells #[Value.int .i64 a1_0, Value.int .i64 a1_1, Value.slice a1_2 n1_2 c1_2, Value.slice a1_3 n1_3 c1_3] 48)).cell? ⟨w.heap.size, 0, none⟩ = some (.slice a0_0 n0_0 c0_0) := by simp [go_sem]
    have k0_1 : ((w.alloc (Obj.cells #[Value.slice a0_0 n0_0 c0_0, Value.slice a0_1 n0_1 c0_1] 42)).alloc (Obj.cells #[Value.int .i64 a1_0, Value.int .i64 a1_1, Value.slice a1_2 n1_2 c1_2, Value.slice a1_3 n1_3 c1_3] 48)).cell? ⟨w.heap.size, 1, none⟩ = some (.slice a0_1 n0_1 c0_1) := by simp [go_sem]
    have k1_0 : ((w.alloc (Obj.cells #[Value.slice a0_0 n0_0 c0_0, Value.slice a0_1 n0_1 c0_1] 42)).alloc (Obj.cells #[Value.int .i64 a1_0, Value.int .i64 a1_1, Value.slice a1_2 n1_2 c1_2, Value.slice a1_3 n1_3 c1_3] 48)).cell? ⟨w.heap.size + 1, 0, none⟩ = some (.int .i64 a1_0) := by simp [go_sem]
    have k1_1 : ((w.alloc (Obj.cells #[Value.slice a0_0 n0_0 c0_0, Value.slice a0_1 n0_1 c0_1] 42)).alloc (Obj.cells #[Value.int .i64 a1_0, Value.int .i64 a1_1, Value.slice a1_2 n1_2 c1_2, Value.slice a1_3 n1_3 c1_3] 48)).cell? ⟨w.heap.size + 1, 1, none⟩ = some (.int .i64 a1_1) := by simp [go_sem]
    have k1_2 : ((w.alloc (Obj.cells #[Value.slice a0_0 n0_0 c0_0, Value.slice a0_1 n0_1 c0_1] 42)).alloc (Obj.cells #[Value.int .i64 a1_0, Value.int .i64 a1_1, Value.slice a1_2 n1_2 c1_2, Value.slice a1_3 n1_3 c1_3] 48)).cell? ⟨w.heap.size + 1, 2, none⟩ = some (.slice a1_2 n1_2 c1_2) := by simp [go_sem]
    have k1_3 : ((w.alloc (Obj.cells #[Value.slice a0_0 n0_0 c0_0, Value.slice a0_1 n0_1 c0_1] 42)).alloc (Obj.cells #[Value.int .i64 a1_0, Value.int .i64 a1_1, Value.slice a1_2 n1_2 c1_2, Value.slice a1_3 n1_3 c1_3] 48)).cell? ⟨w.heap.size + 1, 3, none⟩ = some (.slice a1_3 n1_3 c1_3) := by simp [go_sem]
    refine (szTopologyB _ _ _ _ _ _ _ _ (by omega) (by omega) (by omega) m0_0 m0_1).mono ?_
    rintro e w1 ⟨rfl, m1⟩
    go_wp2_with fail
    go_ret
    exact ⟨rfl, (M0.trans m1).below0⟩
  have hn0 : (n0_0 : Int) + (n0_1 : Int) ≤ (1048576 : Int) := by omega
  clear hbig0
  by_cases hbig1 : (1048576 - n0_0 - n0_1 : Int) < (n1_2 : Int) + (n1_3 : Int)
  · go_enter Try.func5, Try.ntmps5
    go_wp2_with fail
    have M0 : Mk0 w ((w.alloc (Obj.cells #[Value.slice a0_0 n0_0 c0_0, Value.slice a0_1 n0_1 c0_1] 42)).alloc (Obj.cells #[Value.int .i64 a1_0, Value.int .i64 a1_1, Value.slice a1_2 n1_2 c1_2, Value.slice a1_3 n1_3 c1_3] 48)) := ((Mk.alloc w _).new _)
    have k0_0 : ((w.alloc (Obj.cells #[Value.slice a0_0 n0_0 c0_0, Value.slice a0_1 n0_1 c0_1] 42)).alloc (Obj.cells #[Value.int .i64 a1_0, Value.int .i64 a1_1, Value.slice a1_2 n1_2 c1_2, Value.slice a1_3 n1_3 c1_3] 48)).cell? ⟨w.heap.size, 0, none⟩ = some (.slice a0_0 n0_0 c0_0) := by simp [go_sem]
    have k0_1 : ((w.alloc (Obj.cells #[Value.slice a0_0 n0_0 c0_0, Value.slice a0_1 n0_1 c0_1] 42)).alloc (Obj.cells #[Value.int .i64 a1_0, Value.int .i64 a1_1, Value.slice a1_2 n1_2 c1_2, Value.slice a1_3 n1_3 c1_3] 48)).cell? ⟨w.heap.size, 1, none⟩ = some (.slice a0_1 n0_1 c0_1) := by simp [go_sem]
    have k1_0 : ((w.alloc (Obj.cells #[Value.slice a0_0 n0_0 c0_0, Value.slice a0_1 n0_1 c0_1] 42)).alloc (Obj.cells #[Value.int .i64 a1_0, Value.int .i64 a1_1, Value.slice a1_2 n1_2 c1_2, Value.slice a1_3 n1_3 c1_3] 48)).cell? ⟨w.heap.size + 1, 0, none⟩ = some (.int .i64 a1_0) := by simp [go_sem]
    have k1_1 : ((w.alloc (Obj.cells #[Value.slice a0_0 n0_0 c0_0, Value.slice a0_1 n0_1 c0_1] 42)).alloc (Obj.cells #[Value.int .i64 a1_0, Value.int .i64 a1_1, Value.slice a1_2 n1_2 c1_2, Value.slice a1_3 n1_3 c1_3] 48)).cell? ⟨w.heap.size + 1, 1, none⟩ = some (.int .i64 a1_1) := by simp [go_sem]
    have k1_2 : ((w.alloc (Obj.cells #[Value.slice a0_0 n0_0 c0_0, Value.slice a0_1 n0_1 c0_1] 42)).alloc (Obj.cells #[Value.int .i64 a1_0, Value.int .i64 a1_1, Value.slice a1_2 n1_2 c1_2, Value.slice a1_3 n1_3 c1_3] 48)).cell? ⟨w.heap.size + 1, 2, none⟩ = some (.slice a1_2 n1_2 c1_2) := by simp [go_sem]
    have k1_3 : ((w.alloc (Obj.cells #[Value.slice a0_0 n0_0 c0_0, Value.slice a0_1 n0_1 c0_1] 42)).alloc (Obj.cells #[Value.int .i64 a1_0, Value.int .i64 a1_1, Value.slice a1_2 n1_2 c1_2, Value.slice a1_3 n1_3 c1_3] 48)).cell? ⟨w.heap.size + 1, 3, none⟩ = some (.slice a1_3 n1_3 c1_3) := by simp [go_sem]
    refine (szTopologyC _ _ _ _ _ _ _ _ (by omega) (by omega) (by omega)).mono ?_
    rintro e w1 ⟨l1, hl1, rfl, m1⟩
    have M1 := M0.trans m1
    replace k0_0 := m1.cellAt k0_0
    replace k0_1 := m1.cellAt k0_1
    replace k1_0 := m1.cellAt k1_0
    replace k1_1 := m1.cellAt k1_1
    replace k1_2 := m1.cellAt k1_2
    replace k1_3 := m1.cellAt k1_3
    have z1 := m1.size
    simp only [World.size_alloc] at z1
    go_wp2_with fail
    refine (szSignedSegmentB _ _ _ _ _ _ _ _ _ _ (by omega) (by omega) (by omega) m1_2 m1_3).mono ?_
    rintro e w2 ⟨rfl, m2⟩
    go_wp2_with fail
    go_ret
    exact ⟨rfl, (M1.trans m2).below0⟩
  have hn1 : (n1_2 : Int) + (n1_3 : Int) ≤ (1048576 - n0_0 - n0_1 : Int) := by omega
  clear hbig1
  go_enter Try.func5, Try.ntmps5
  go_wp2_with fail
  have M0 : Mk0 w ((w.alloc (Obj.cells #[Value.slice a0_0 n0_0 c0_0, Value.slice a0_1 n0_1 c0_1] 42)).alloc (Obj.cells #[Value.int .i64 a1_0, Value.int .i64 a1_1, Value.slice a1_2 n1_2 c1_2, Value.slice a1_3 n1_3 c1_3] 48)) := ((Mk.alloc w _).new _)
  have k0_0 : ((w.alloc (Obj.cells #[Value.slice a0_0 n0_0 c0_0, Value.slice a0_1 n0_1 c0_1] 42)).alloc (Obj.cells #[Value.int .i64 a1_0, Value.int .i64 a1_1, Value.slice a1_2 n1_2 c1_2, Value.slice a1_3 n1_3 c1_3] 48)).cell? ⟨w.heap.size, 0, none⟩ = some (.slice a0_0 n0_0 c0_0) := by simp [go_sem]
  have k0_1 : ((w.alloc (Obj.cells #[Value.slice a0_0 n0_0 c0_0, Value.slice a0_1 n0_1 c0_1] 42)).alloc (Obj.cells #[Value.int .i64 a1_0, Value.int .i64 a1_1, Value.slice a1_2 n1_2 c1_2, Value.slice a1_3 n1_3 c1_3] 48)).cell? ⟨w.heap.size, 1, none⟩ = some (.slice a0_1 n0_1 c0_1) := by simp [go_sem]
  have k1_0 : ((w.alloc (Obj.cells #[Value.slice a0_0 n0_0 c0_0, Value.slice a0_1 n0_1 c0_1] 42)).alloc (Obj.cells #[Value.int .i64 a1_0, Value.int .i64 a1_1, Value.slice a1_2 n1_2 c1_2, Value.slice a1_3 n1_3 c1_3] 48)).cell? ⟨w.heap.size + 1, 0, none⟩ = some (.int .i64 a1_0) := by simp [go_sem]
  have k1_1 : ((w.alloc (Obj.cells #[Value.slice a0_0 n0_0 c0_0, Value.slice a0_1 n0_1 c0_1] 42)).alloc (Obj.cells #[Value.int .i64 a1_0, Value.int .i64 a1_1, Value.slice a1_2 n1_2 c1_2, Value.slice a1_3 n1_3 c1_3] 48)).cell? ⟨w.heap.size + 1, 1, none⟩ = some (.int .i64 a1_1) := by simp [go_sem]
  have k1_2 : ((w.alloc (Obj.cells #[Value.slice a0_0 n0_0 c0_0, Value.slice a0_1 n0_1 c0_1] 42)).alloc (Obj.cells #[Value.int .i64 a1_0, Value.int .i64 a1_1, Value.slice a1_2 n1_2 c1_2, Value.slice a1_3 n1_3 c1_3] 48)).cell? ⟨w.heap.size + 1, 2, none⟩ = some (.slice a1_2 n1_2 c1_2) := by simp [go_sem]
  have k1_3 : ((w.alloc (Obj.cells #[Value.slice a0_0 n0_0 c0_0, Value.slice a0_1 n0_1 c0_1] 42)).alloc (Obj.cells #[Value.int .i64 a1_0, Value.int .i64 a1_1, Value.slice a1_2 n1_2 c1_2, Value.slice a1_3 n1_3 c1_3] 48)).cell? ⟨w.heap.size + 1, 3, none⟩ = some (.slice a1_3 n1_3 c1_3) := by simp [go_sem]
  refine (szTopologyC _ _ _ _ _ _ _ _ (by omega) (by omega) (by omega)).mono ?_
  rintro e w1 ⟨l1, hl1, rfl, m1⟩
  have M1 := M0.trans m1
  replace k0_0 := m1.cellAt k0_0
  replace k0_1 := m1.cellAt k0_1
  replace k1_0 := m1.cellAt k1_0
  replace k1_1 := m1.cellAt k1_1
  replace k1_2 := m1.cellAt k1_2
  replace k1_3 := m1.cellAt k1_3
  have z1 := m1.size
  simp only [World.size_alloc] at z1
  go_wp2_with fail
  refine (szSignedSegmentC _ _ _ _ _ _ _ _ _ _ (by omega) (by omega) (by omega)).mono ?_
  rintro e w2 ⟨l2, hl2, rfl, m2⟩
  have M2 := M1.trans m2
  have z2 := m2.size
  replace k0_0 := m2.cellAt k0_0
  replace k0_1 := m2.cellAt k0_1
  replace k1_0 := m2.cellAt k1_0
  replace k1_1 := m2.cellAt k1_1
  replace k1_2 := m2.cellAt k1_2
  replace k1_3 := m2.cellAt k1_3
  go_wp2_with fail
  have e1 : ∀ w', Mk0 w2 w' → HasAS w' w.heap.size a0_0 n0_0 z0_0 := fun w' m => h0_0.mk (M2.trans m) (Nat.le_refl _) (.inr (Nat.le_refl _))
  have e2 : ∀ w', Mk0 w2 w' → HasLink w' w.heap.size a0_1 n0_1 z0_1 := fun w' m => h0_1.mk (M2.trans m) (Nat.le_refl _) (.inr (Nat.le_refl _))
  have hN0_0 : n0_0 ≤ 1048576 := by omega
  have hN0_1 : n0_1 ≤ 1048576 := by omega
  have e3 : ∀ w', Mk0 w2 w' → HasHop w' w.heap.size a1_2 n1_2 z1_2 := fun w' m => h1_2.mk (M2.trans m) (Nat.le_refl _) (.inr (Nat.le_refl _))
  have e4 : ∀ w', Mk0 w2 w' → HasInt w' w.heap.size a1_3 n1_3 z1_3 := fun w' m => h1_3.mk (M2.trans m) (Nat.le_refl _) (.inr (Nat.le_refl _))
  have hN1_2 : n1_2 ≤ 1048576 := by omega
  have hN1_3 : n1_3 ≤ 1048576 := by omega
  go_region_held3 (fun w' => Mk0 w2 w' ∧ w'.cell? ⟨w.heap.size, 0, none⟩ = some (.slice a0_0 n0_0 c0_0) ∧ w'.cell? ⟨w.heap.size, 1, none⟩ = some (.slice a0_1 n0_1 c0_1) ∧ w'.cell? ⟨w.heap.size + 1, 0, none⟩ = some (.int .i64 a1_0) ∧ w'.cell? ⟨w.heap.size + 1, 1, none⟩ = some (.int .i64 a1_1) ∧ w'.cell? ⟨w.heap.size + 1, 2, none⟩ = some (.slice a1_2 n1_2 c1_2) ∧ w'.cell? ⟨w.heap.size + 1, 3, none⟩ = some (.slice a1_3 n1_3 c1_3)) (first | exact ⟨Mk.drew1 _, k0_0, k0_1, k1_0, k1_1, k1_2, k1_3⟩ | (obtain ⟨s0, s1, s2, s3, s4, s5, s6⟩ := ‹Mk0 w2 _ ∧ _›; exact ⟨s0.trans mm, mm.cellAt s1, mm.cellAt s2, mm.cellAt s3, mm.cellAt s4, mm.cellAt s5, mm.cellAt s6⟩)) (first | (go_at_call 25; with_reducible refine (toTopologyC a0_0 n0_0 c0_0 z0_0 a0_1 n0_1 c0_1 z0_1 w.heap.size _ (e1 _ (‹Mk0 w2 _ ∧ _›).1) (e2 _ (‹Mk0 w2 _ ∧ _›).1) (M2.trans (‹Mk0 w2 _ ∧ _›).1).size hN0_0 hN0_1).mono ?_; rintro e wc0 ⟨bc0_0, bc0_1, dc0_0, rfl, oc0_0, oc0_1, gc0_0, gc0_1, mc0⟩; have mm := mc0) | (go_at_call 26; with_reducible refine (toSignedSegmentC a1_0 a1_1 a1_2 n1_2 c1_2 z1_2 a1_3 n1_3 c1_3 z1_3 w.heap.size _ (e3 _ (‹Mk0 w2 _ ∧ _›).1) (e4 _ (‹Mk0 w2 _ ∧ _›).1) (M2.trans (‹Mk0 w2 _ ∧ _›).1).size hN1_2 hN1_3).mono ?_; rintro e wc1 ⟨bc1_0, bc1_1, dc1_0, rfl, oc1_0, oc1_1, gc1_0, gc1_1, mc1⟩; have mm := mc1) | (go_at_call 24; refine (specFbad _ _ _ _ _ _ _ z0_0 a1_0 a1_1 _ _ _ _ _ _ _ z1_2 z1_3 _ (by first | exact (oc0_0.has.mono gc0_1) | exact (oc0_0.has.mono gc0_1).mk mc1 (Nat.le_refl _) (.inr (Nat.le_refl _))) (by first | exact Nat.le_refl _ | exact mc1.size) hN0_0 (by first | exact (oc1_0.has.mono gc1_1) | exact (oc1_0.has.mono gc1_1).mk mc0 (Nat.le_refl _) (.inr (Nat.le_refl _))) (by first | exact Nat.le_refl _ | exact mc0.size) hN1_2 (by first | exact (oc1_1.has.mono (Nat.le_refl _)) | exact (oc1_1.has.mono (Nat.le_refl _)).mk mc0 (Nat.le_refl _) (.inr (Nat.le_refl _))) hN1_3 (Nat.le_refl _) f0_0 w1_0 w1_1 f1_2).mono ?_; rintro e wz3 ⟨rfl, mm⟩))
  all_goals (
    obtain ⟨m3, k0_0, k0_1, k1_0, k1_1, k1_2, k1_3⟩ := ‹Mk0 w2 _ ∧ _›
    refine ‹∀ (a : Act) (w : World), _ → _› _ _ ?_
    clear e1 e2 hN0_0 hN0_1 e3 e4 hN1_2 hN1_3
    have M3 := M2.trans m3
    have z3 := m3.size
    go_wp2_with fail
    refine (toTopologyC _ _ _ _ _ _ _ _ w.heap.size _ (h0_0.mk M3 (Nat.le_refl _) (.inr (Nat.le_refl _))) (h0_1.mk M3 (Nat.le_refl _) (.inr (Nat.le_refl _))) (by omega) (by omega) (by omega)).mono ?_
    rintro e w4 ⟨b5, b6, d7, rfl, o8, o9, g10, g11, m4⟩
    have M4 := M3.trans m4
    have z4 := m4.size
    replace k0_0 := m4.cellAt k0_0
    replace k0_1 := m4.cellAt k0_1
    replace k1_0 := m4.cellAt k1_0
    replace k1_1 := m4.cellAt k1_1
    replace k1_2 := m4.cellAt k1_2
    replace k1_3 := m4.cellAt k1_3
    have h12 := o8.has.mono (B' := w4.heap.size) (by omega)
    clear o8
    have h13 := o9.has.mono (B' := w4.heap.size) (by omega)
    clear o9
    have yb14 : w.heap.size < w4.heap.size := by omega
    have yb15 : w.heap.size + 1 < w4.heap.size := by omega
    go_wp2_with fail
    have xx0_0 : (w4.alloc (Obj.cells #[Value.slice (some ⟨b5, 0, none⟩) n0_0 n0_0, Value.slice (some ⟨b6, 0, none⟩) n0_1 n0_1] 55)).cell? ⟨w4.heap.size, 0, none⟩ = some (.slice (some ⟨b5, 0, none⟩) n0_0 n0_0) := by rw [World.cell?_alloc_at _ _ _ _ rfl]; rfl
    have xx0_1 : (w4.alloc (Obj.cells #[Value.slice (some ⟨b5, 0, none⟩) n0_0 n0_0, Value.slice (some ⟨b6, 0, none⟩) n0_1 n0_1] 55)).cell? ⟨w4.heap.size, 1, none⟩ = some (.slice (some ⟨b6, 0, none⟩) n0_1 n0_1) := by rw [World.cell?_alloc_at _ _ _ _ rfl]; rfl
    have m5 := Mk.alloc w4 (Obj.cells #[Value.slice (some ⟨b5, 0, none⟩) n0_0 n0_0, Value.slice (some ⟨b6, 0, none⟩) n0_1 n0_1] 55)
    replace k0_0 := m5.cellAt k0_0
    replace k0_1 := m5.cellAt k0_1
    replace k1_0 := m5.cellAt k1_0
    replace k1_1 := m5.cellAt k1_1
    replace k1_2 := m5.cellAt k1_2
    replace k1_3 := m5.cellAt k1_3
    replace h12 := h12.mk m5 (by omega) (.inr (Nat.le_refl _))
    replace h13 := h13.mk m5 (by omega) (.inr (Nat.le_refl _))
    have M5 := M4.trans m5
    have z5 := m5.size
    have zz5 : w4.heap.size < (w4.alloc (Obj.cells #[Value.slice (some ⟨b5, 0, none⟩) n0_0 n0_0, Value.slice (some ⟨b6, 0, none⟩) n0_1 n0_1] 55)).heap.size := by rw [World.size_alloc]; omega
    generalize (w4.alloc (Obj.cells #[Value.slice (some ⟨b5, 0, none⟩) n0_0 n0_0, Value.slice (some ⟨b6, 0, none⟩) n0_1 n0_1] 55)) = w5 at *
    refine (toSignedSegmentC _ _ _ _ _ _ _ _ _ _ w.heap.size _ (h1_2.mk M5 (Nat.le_refl _) (.inr (Nat.le_refl _))) (h1_3.mk M5 (Nat.le_refl _) (.inr (Nat.le_refl _))) (by omega) (by omega) (by omega)).mono ?_
    rintro e w6 ⟨b16, b17, d18, rfl, o19, o20, g21, g22, m6⟩
    have M6 := M5.trans m6
    have z6 := m6.size
    replace k0_0 := m6.cellAt k0_0
    replace k0_1 := m6.cellAt k0_1
    replace k1_0 := m6.cellAt k1_0
    replace k1_1 := m6.cellAt k1_1
    replace k1_2 := m6.cellAt k1_2
    replace k1_3 := m6.cellAt k1_3
    replace xx0_0 := m6.cellAt xx0_0
    replace xx0_1 := m6.cellAt xx0_1
    replace h12 := h12.mk m6 (by omega) (.inr (Nat.le_refl _))
    replace h13 := h13.mk m6 (by omega) (.inr (Nat.le_refl _))
    have h23 := o19.has.mono (B' := w6.heap.size) (by omega)
    clear o19
    have h24 := o20.has.mono (B' := w6.heap.size) (by omega)
    clear o20
    have yb25 : w.heap.size < w6.heap.size := by omega
    have yb26 : w.heap.size + 1 < w6.heap.size := by omega
    have yb27 : w4.heap.size < w6.heap.size := by omega
    go_wp2_with fail
    have xx1_0 : (w6.alloc (Obj.cells #[Value.int .i64 a1_0, Value.int .i64 a1_1, Value.slice (some ⟨b16, 0, none⟩) n1_2 n1_2, Value.slice (some ⟨b17, 0, none⟩) n1_3 n1_3] 58)).cell? ⟨w6.heap.size, 0, none⟩ = some (.int .i64 a1_0) := by rw [World.cell?_alloc_at _ _ _ _ rfl]; rfl
    have xx1_1 : (w6.alloc (Obj.cells #[Value.int .i64 a1_0, Value.int .i64 a1_1, Value.slice (some ⟨b16, 0, none⟩) n1_2 n1_2, Value.slice (some ⟨b17, 0, none⟩) n1_3 n1_3] 58)).cell? ⟨w6.heap.size, 1, none⟩ = some (.int .i64 a1_1) := by rw [World.cell?_alloc_at _ _ _ _ rfl]; rfl
    have xx1_2 : (w6.alloc (Obj.cells #[Value.int .i64 a1_0, Value.int .i64 a1_1, Value.slice (some ⟨b16, 0, none⟩) n1_2 n1_2, Value.slice (some ⟨b17, 0, none⟩) n1_3 n1_3] 58)).cell? ⟨w6.heap.size, 2, none⟩ = some (.slice (some ⟨b16, 0, none⟩) n1_2 n1_2) := by rw [World.cell?_alloc_at _ _ _ _ rfl]; rfl
    have xx1_3 : (w6.alloc (Obj.cells #[Value.int .i64 a1_0, Value.int .i64 a1_1, Value.slice (some ⟨b16, 0, none⟩) n1_2 n1_2, Value.slice (some ⟨b17, 0, none⟩) n1_3 n1_3] 58)).cell? ⟨w6.heap.size, 3, none⟩ = some (.slice (some ⟨b17, 0, none⟩) n1_3 n1_3) := by rw [World.cell?_alloc_at _ _ _ _ rfl]; rfl
    have m7 := Mk.alloc w6 (Obj.cells #[Value.int .i64 a1_0, Value.int .i64 a1_1, Value.slice (some ⟨b16, 0, none⟩) n1_2 n1_2, Value.slice (some ⟨b17, 0, none⟩) n1_3 n1_3] 58)
    replace k0_0 := m7.cellAt k0_0
    replace k0_1 := m7.cellAt k0_1
    replace k1_0 := m7.cellAt k1_0
    replace k1_1 := m7.cellAt k1_1
    replace k1_2 := m7.cellAt k1_2
    replace k1_3 := m7.cellAt k1_3
    replace xx0_0 := m7.cellAt xx0_0
    replace xx0_1 := m7.cellAt xx0_1
    replace h12 := h12.mk m7 (by omega) (.inr (Nat.le_refl _))
    replace h13 := h13.mk m7 (by omega) (.inr (Nat.le_refl _))
    replace h23 := h23.mk m7 (by omega) (.inr (Nat.le_refl _))
    replace h24 := h24.mk m7 (by omega) (.inr (Nat.le_refl _))
    have M7 := M6.trans m7
    have z7 := m7.size
    have zz7 : w6.heap.size < (w6.alloc (Obj.cells #[Value.int .i64 a1_0, Value.int .i64 a1_1, Value.slice (some ⟨b16, 0, none⟩) n1_2 n1_2, Value.slice (some ⟨b17, 0, none⟩) n1_3 n1_3] 58)).heap.size := by rw [World.size_alloc]; omega
    generalize (w6.alloc (Obj.cells #[Value.int .i64 a1_0, Value.int .i64 a1_1, Value.slice (some ⟨b16, 0, none⟩) n1_2 n1_2, Value.slice (some ⟨b17, 0, none⟩) n1_3 n1_3] 58)) = w7 at *
    have hN0_0 : n0_0 ≤ 1048576 := by omega
    have hN0_1 : n0_1 ≤ 1048576 := by omega
    have hN1_2 : n1_2 ≤ 1048576 := by omega
    have hN1_3 : n1_3 ≤ 1048576 := by omega
    refine (implFbad _ _ _ _ _ _ _ z0_0 a1_0 a1_1 _ _ _ _ _ _ _ z1_2 z1_3 _ h12 (by omega) hN0_0 h23 (by omega) hN1_2 h24 hN1_3 (Nat.le_refl _) f0_0 w1_0 w1_1 f1_2).mono ?_
    rintro e w8 ⟨rfl, m8⟩
    have M8 := M7.trans m8
    have z8 := m8.size
    replace k0_0 := m8.cellAt k0_0
    replace k0_1 := m8.cellAt k0_1
    replace k1_0 := m8.cellAt k1_0
    replace k1_1 := m8.cellAt k1_1
    replace k1_2 := m8.cellAt k1_2
    replace k1_3 := m8.cellAt k1_3
    replace xx0_0 := m8.cellAt xx0_0
    replace xx0_1 := m8.cellAt xx0_1
    replace xx1_0 := m8.cellAt xx1_0
    replace xx1_1 := m8.cellAt xx1_1
    replace xx1_2 := m8.cellAt xx1_2
    replace xx1_3 := m8.cellAt xx1_3
    replace h12 := h12.mk m8 (by omega) (.inr (Nat.le_refl _))
    replace h13 := h13.mk m8 (by omega) (.inr (Nat.le_refl _))
    replace h23 := h23.mk m8 (by omega) (.inr (Nat.le_refl _))
    replace h24 := h24.mk m8 (by omega) (.inr (Nat.le_refl _))
    go_wp2_with fail
    have e28 : ∀ w', Mk0 w8 w' → HasAS w' w4.heap.size (some ⟨b5, 0, none⟩) n0_0 z0_0 := fun w' m => h12.mk m (by omega) (.inr (Nat.le_refl _))
    have e29 : ∀ w', Mk0 w8 w' → HasLink w' w4.heap.size (some ⟨b6, 0, none⟩) n0_1 z0_1 := fun w' m => h13.mk m (by omega) (.inr (Nat.le_refl _))
    have e30 : ∀ w', Mk0 w8 w' → w4.heap.size ≤ w'.heap.size := fun w' m => Nat.le_trans (by omega) m.size
    have e31 : ∀ w', Mk0 w8 w' → HasAS w' w.heap.size a0_0 n0_0 z0_0 := fun w' m => h0_0.mk (M8.trans m) (Nat.le_refl _) (.inr (Nat.le_refl _))
    have e32 : ∀ w', Mk0 w8 w' → HasLink w' w.heap.size a0_1 n0_1 z0_1 := fun w' m => h0_1.mk (M8.trans m) (Nat.le_refl _) (.inr (Nat.le_refl _))
    have hN0_0 : n0_0 ≤ 1048576 := by omega
    have hN0_1 : n0_1 ≤ 1048576 := by omega
    go_region_held3 (fun w' => Mk0 w8 w' ∧ w'.cell? ⟨w.heap.size, 0, none⟩ = some (.slice a0_0 n0_0 c0_0) ∧ w'.cell? ⟨w.heap.size, 1, none⟩ = some (.slice a0_1 n0_1 c0_1) ∧ w'.cell? ⟨w.heap.size + 1, 0, none⟩ = some (.int .i64 a1_0) ∧ w'.cell? ⟨w.heap.size + 1, 1, none⟩ = some (.int .i64 a1_1) ∧ w'.cell? ⟨w.heap.size + 1, 2, none⟩ = some (.slice a1_2 n1_2 c1_2) ∧ w'.cell? ⟨w.heap.size + 1, 3, none⟩ = some (.slice a1_3 n1_3 c1_3) ∧ w'.cell? ⟨w4.heap.size, 0, none⟩ = some (.slice (some ⟨b5, 0, none⟩) n0_0 n0_0) ∧ w'.cell? ⟨w4.heap.size, 1, none⟩ = some (.slice (some ⟨b6, 0, none⟩) n0_1 n0_1) ∧ w'.cell? ⟨w6.heap.size, 0, none⟩ = some (.int .i64 a1_0) ∧ w'.cell? ⟨w6.heap.size, 1, none⟩ = some (.int .i64 a1_1) ∧ w'.cell? ⟨w6.heap.size, 2, none⟩ = some (.slice (some ⟨b16, 0, none⟩) n1_2 n1_2) ∧ w'.cell? ⟨w6.heap.size, 3, none⟩ = some (.slice (some ⟨b17, 0, none⟩) n1_3 n1_3)) (first | exact ⟨Mk.drew1 _, k0_0, k0_1, k1_0, k1_1, k1_2, k1_3, xx0_0, xx0_1, xx1_0, xx1_1, xx1_2, xx1_3⟩ | (obtain ⟨s0, s1, s2, s3, s4, s5, s6, s7, s8, s9, s10, s11, s12⟩ := ‹Mk0 w8 _ ∧ _›; exact ⟨s0.trans mm, mm.cellAt s1, mm.cellAt s2, mm.cellAt s3, mm.cellAt s4, mm.cellAt s5, mm.cellAt s6, mm.cellAt s7, mm.cellAt s8, mm.cellAt s9, mm.cellAt s10, mm.cellAt s11, mm.cellAt s12⟩)) (first | (go_at_call 25; refine (toTopologyC _ _ _ _ _ _ _ _ w.heap.size _ (e31 _ (‹Mk0 w8 _ ∧ _›).1) (e32 _ (‹Mk0 w8 _ ∧ _›).1) (M8.trans (‹Mk0 w8 _ ∧ _›).1).size hN0_0 hN0_1).mono ?_; rintro e wa ⟨bb0, bb1, dd0, rfl, oo0, oo1, gg0, gg1, mm⟩) | (go_at_call 28; refine (eqTopologyC _ _ _ _ _ _ _ _ _ _ _ _ _ _ _ (e28 _ (‹Mk0 w8 _ ∧ _›).1) (e29 _ (‹Mk0 w8 _ ∧ _›).1) (oo0.has.mono gg1) (oo1.has.mono (Nat.le_refl _)) (e30 _ (‹Mk0 w8 _ ∧ _›).1) (Nat.le_refl _) hN0_0 hN0_1).mono ?_; rintro e wb9 ⟨rfl, mm⟩))
    obtain ⟨m9, k0_0, k0_1, k1_0, k1_1, k1_2, k1_3, xx0_0, xx0_1, xx1_0, xx1_1, xx1_2, xx1_3⟩ := ‹Mk0 w8 _ ∧ _›
    clear e28 e29 e30 e31 e32 hN0_0 hN0_1
    refine ‹∀ (a : Act) (w : World), _ → _› _ _ ?_
    have M9 := M8.trans m9
    have z9 := m9.size
    replace h12 := h12.mk m9 (by omega) (.inr (Nat.le_refl _))
    replace h13 := h13.mk m9 (by omega) (.inr (Nat.le_refl _))
    replace h23 := h23.mk m9 (by omega) (.inr (Nat.le_refl _))
    replace h24 := h24.mk m9 (by omega) (.inr (Nat.le_refl _))
    go_wp2_with fail
    have e33 : ∀ w', Mk0 wb9 w' → HasHop w' w6.heap.size (some ⟨b16, 0, none⟩) n1_2 z1_2 := fun w' m => h23.mk m (by omega) (.inr (Nat.le_refl _))
    have e34 : ∀ w', Mk0 wb9 w' → HasInt w' w6.heap.size (some ⟨b17, 0, none⟩) n1_3 z1_3 := fun w' m => h24.mk m (by omega) (.inr (Nat.le_refl _))
    have e35 : ∀ w', Mk0 wb9 w' → w6.heap.size ≤ w'.heap.size := fun w' m => Nat.le_trans (by omega) m.size
    have e36 : ∀ w', Mk0 wb9 w' → HasHop w' w.heap.size a1_2 n1_2 z1_2 := fun w' m => h1_2.mk (M9.trans m) (Nat.le_refl _) (.inr (Nat.le_refl _))
    have e37 : ∀ w', Mk0 wb9 w' → HasInt w' w.heap.size a1_3 n1_3 z1_3 := fun w' m => h1_3.mk (M9.trans m) (Nat.le_refl _) (.inr (Nat.le_refl _))
    have hN1_2 : n1_2 ≤ 1048576 := by omega
    have hN1_3 : n1_3 ≤ 1048576 := by omega
    go_region_held3 (fun w' => Mk0 wb9 w' ∧ w'.cell? ⟨w.heap.size, 0, none⟩ = some (.slice a0_0 n0_0 c0_0) ∧ w'.cell? ⟨w.heap.size, 1, none⟩ = some (.slice a0_1 n0_1 c0_1) ∧ w'.cell? ⟨w.heap.size + 1, 0, none⟩ = some (.int .i64 a1_0) ∧ w'.cell? ⟨w.heap.size + 1, 1, none⟩ = some (.int .i64 a1_1) ∧ w'.cell? ⟨w.heap.size + 1, 2, none⟩ = some (.slice a1_2 n1_2 c1_2) ∧ w'.cell? ⟨w.heap.size + 1, 3, none⟩ = some (.slice a1_3 n1_3 c1_3) ∧ w'.cell? ⟨w4.heap.size, 0, none⟩ = some (.slice (some ⟨b5, 0, none⟩) n0_0 n0_0) ∧ w'.cell? ⟨w4.heap.size, 1, none⟩ = some (.slice (some ⟨b6, 0, none⟩) n0_1 n0_1) ∧ w'.cell? ⟨w6.heap.size, 0, none⟩ = some (.int .i64 a1_0) ∧ w'.cell? ⟨w6.heap.size, 1, none⟩ = some (.int .i64 a1_1) ∧ w'.cell? ⟨w6.heap.size, 2, none⟩ = some (.slice (some ⟨b16, 0, none⟩) n1_2 n1_2) ∧ w'.cell? ⟨w6.heap.size, 3, none⟩ = some (.slice (some ⟨b17, 0, none⟩) n1_3 n1_3)) (first | exact ⟨Mk.drew1 _, k0_0, k0_1, k1_0, k1_1, k1_2, k1_3, xx0_0, xx0_1, xx1_0, xx1_1, xx1_2, xx1_3⟩ | (obtain ⟨s0, s1, s2, s3, s4, s5, s6, s7, s8, s9, s10, s11, s12⟩ := ‹Mk0 wb9 _ ∧ _›; exact ⟨s0.trans mm, mm.cellAt s1, mm.cellAt s2, mm.cellAt s3, mm.cellAt s4, mm.cellAt s5, mm.cellAt s6, mm.cellAt s7, mm.cellAt s8, mm.cellAt s9, mm.cellAt s10, mm.cellAt s11, mm.cellAt s12⟩)) (first | (go_at_call 26; refine (toSignedSegmentC _ _ _ _ _ _ _ _ _ _ w.heap.size _ (e36 _ (‹Mk0 wb9 _ ∧ _›).1) (e37 _ (‹Mk0 wb9 _ ∧ _›).1) (M9.trans (‹Mk0 wb9 _ ∧ _›).1).size hN1_2 hN1_3).mono ?_; rintro e wa ⟨bb0, bb1, dd0, rfl, oo0, oo1, gg0, gg1, mm⟩) | (go_at_call 29; refine (eqSignedSegmentC _ _ _ _ _ _ _ _ _ _ _ _ _ _ _ _ _ (e33 _ (‹Mk0 wb9 _ ∧ _›).1) (e34 _ (‹Mk0 wb9 _ ∧ _›).1) (oo0.has.mono gg1) (oo1.has.mono (Nat.le_refl _)) (e35 _ (‹Mk0 wb9 _ ∧ _›).1) (Nat.le_refl _) hN1_2 hN1_3).mono ?_; rintro e wb10 ⟨rfl, mm⟩))
    obtain ⟨m10, k0_0, k0_1, k1_0, k1_1, k1_2, k1_3, xx0_0, xx0_1, xx1_0, xx1_1, xx1_2, xx1_3⟩ := ‹Mk0 wb9 _ ∧ _›
    clear e33 e34 e35 e36 e37 hN1_2 hN1_3
    refine ‹∀ (a : Act) (w : World), _ → _› _ _ ?_
    have M10 := M9.trans m10
    have z10 := m10.size
    replace h23 := h23.mk m10 (by omega) (.inr (Nat.le_refl _))
    replace h24 := h24.mk m10 (by omega) (.inr (Nat.le_refl _))
    go_wp2_with fail
    go_ret
    exact ⟨rfl, M10.below0⟩)

set_option maxRecDepth 100000 in
theorem lifted (os : Os) (started : os.Started) (H : Type) (enc : TypeId × Value → H) :
    ReturnsInHanded {} Try.checked os 5 .any (Rows.fnExactFirstBadSignatureSpec.pre6 enc Try.prog Try.f5 Rows.fnExactFirstBadSignatureRow.domain false) (Rows.fnExactFirstBadSignatureSpec.post enc Try.prog Try.f5 false true false false) := by
  refine returnsInHanded_of_change (C := Try.checked) own started (by kernel_rfl) Try.func5
    (ChangeSpec.witness6 (enc := enc) (C := Try.checked) false ⟨#[], #[.agg #[.slice none 0 0, .slice none 0 0], .agg #[.int .i64 0, .int .i64 0, .slice none 0 0, .slice none 0 0]], []⟩ 8 (by kernel_rfl) (by kernel_rfl) (by kernel_rfl) (by kernel_rfl)) ?_
  intro W base args ds gs before hval0 hW hcnd _
  have hval : ∀ (j : Nat) t v, Try.f5.params[j]? = some t → args[j]? = some v → Value.okWide Try.prog W .any base t v := hval0
  have hW' := hW
  obtain ⟨p, q, hA0, hV, rfl, hfz, hnd⟩ := hW
  have hA : DataW.TrodAll enc Try.prog W 0 (fun _ => true) true Try.f5.params.toList args.toList ds p := hA0
  rw [Try.params5] at hA hval
  obtain ⟨v0, vs0, d0, ds0, p0, q0, hargs, rfl, rfl, h0, r0⟩ := trodAll_cons hA
  obtain ⟨v1, vs1, d1, ds1, p1, q1, rfl, rfl, rfl, h1, r1⟩ := trodAll_cons r0
  obtain ⟨rfl, rfl, rfl⟩ := trodAll_nil r1
  obtain rfl : args = #[v0, v1] := by cases args; simp_all
  obtain ⟨rfl, rfl⟩ := trodVars_none hV
  have k0 := h0
  have lt0 : ∀ x ∈ p0, x.block < W.heap.size := by obtain ⟨m, hm⟩ := k0; exact DataW.trod_lt m _ _ _ hm
  obtain ⟨cs0, rfl, hcs0, hf0⟩ := open_agg Try.underlying42 (by kernel_rfl) (by kernel_rfl) (hval 0 42 v0 rfl rfl) h0
  obtain ⟨_, _, _, e0_0, q0_0⟩ := hf0 0 _ rfl
  obtain ⟨a0_0, n0_0, c0_0, z0_0, rfl, m0_0, h0_0, f0_0⟩ := openASS q0_0
  obtain ⟨_, _, _, e0_1, q0_1⟩ := hf0 1 _ rfl
  obtain ⟨a0_1, n0_1, c0_1, z0_1, rfl, m0_1, h0_1, f0_1⟩ := openLinkS q0_1
  obtain rfl : cs0 = #[.slice a0_0 n0_0 c0_0, .slice a0_1 n0_1 c0_1] := arr_of [.slice a0_0 n0_0 c0_0, .slice a0_1 n0_1 c0_1] hcs0 (fun j hj => by match j, hj with | 0, _ => exact e0_0 | 1, _ => exact e0_1)
  have k1 := h1
  have lt1 : ∀ x ∈ p1, x.block < W.heap.size := by obtain ⟨m, hm⟩ := k1; exact DataW.trod_lt m _ _ _ hm
  obtain ⟨cs1, rfl, hcs1, hl1⟩ := lf_open 4 Try.underlying48 (by kernel_rfl) (hval 1 48 v1 rfl rfl) h1
  have L1_0 := lf_field (a := 0) (b := 3) 0 _ Try.underlying48 rfl rfl (by kernel_rfl) (by decide) hl1
  have L1_0x0 := lf_field (a := 0) (b := 1) 0 _ Try.underlying45 rfl rfl (by kernel_rfl) (by decide) L1_0
  obtain ⟨_, _, _, e1_0, q1_0⟩ := lf_leaf (o := 0) (by rw [hcs1]; decide) L1_0x0
  have L1_0x1 := lf_field (a := 1) (b := 1) 1 _ Try.underlying45 rfl rfl (by kernel_rfl) (by decide) L1_0
  obtain ⟨_, _, _, e1_1, q1_1⟩ := lf_leaf (o := 1) (by rw [hcs1]; decide) L1_0x1
  have L1_0x2 := lf_field (a := 2) (b := 1) 2 _ Try.underlying45 rfl rfl (by kernel_rfl) (by decide) L1_0
  obtain ⟨_, _, _, e1_2, q1_2⟩ := lf_leaf (o := 2) (by rw [hcs1]; decide) L1_0x2
  have L1_1 := lf_field (a := 3) (b := 1) 1 _ Try.underlying48 rfl rfl (by kernel_rfl) (by decide) hl1
  obtain ⟨_, _, _, e1_3, q1_3⟩ := lf_leaf (o := 3) (by rw [hcs1]; decide) L1_1
  obtain ⟨a1_0, rfl, w1_0⟩ := one_int Try.underlying3 q1_0
  obtain ⟨a1_1, rfl, w1_1⟩ := one_int Try.underlying3 q1_1
  obtain ⟨a1_2, n1_2, c1_2, z1_2, rfl, m1_2, h1_2, f1_2⟩ := openHopS q1_2
  obtain ⟨a1_3, n1_3, c1_3, z1_3, rfl, m1_3, h1_3, f1_3⟩ := openIntS q1_3
  obtain rfl : cs1 = #[.int .i64 a1_0, .int .i64 a1_1, .slice a1_2 n1_2 c1_2, .slice a1_3 n1_3 c1_3] := arr_of [.int .i64 a1_0, .int .i64 a1_1, .slice a1_2 n1_2 c1_2, .slice a1_3 n1_3 c1_3] hcs1 (fun j hj => by match j, hj with | 0, _ => exact e1_0 | 1, _ => exact e1_1 | 2, _ => exact e1_2 | 3, _ => exact e1_3)
  clear hA0 hval0
  refine (walk a0_0 n0_0 c0_0 z0_0 a0_1 n0_1 c0_1 z0_1 a1_0 a1_1 a1_2 n1_2 c1_2 z1_2 a1_3 n1_3 c1_3 z1_3 W h0_0 m0_0 f0_0 h0_1 m0_1 f0_1 w1_0 w1_1 h1_2 m1_2 f1_2 h1_3 m1_3 f1_3).mono fun e W' ⟨he, bel⟩ => ?_
  subst he
  exact ⟨_, rfl, _, _, _, [], _, [], hW', trodAll_mk1 (shut_bool Try.underlying4 _), (trodAll_cons_mk (Below.trod laidOut (by kernel_rfl) (of_decide_eq_true (by kernel_rfl)) k0 bel lt0) (trodAll_cons_mk (Below.trod laidOut (by kernel_rfl) (of_decide_eq_true (by kernel_rfl)) k1 bel lt1) trodAll_mk0)), rfl, bel.frame _, fun h => by cases h⟩

theorem over : Rows.fnExactFirstBadSignatureRow.holds Try.pinned (OpenSpec.ofChange Rows.fnExactFirstBadSignatureSpec) :=
  OpenClaim.holds_of_wide 5 Try.f5 rfl rfl rfl rfl rfl rfl rfl ⟨rfl, rfl, rfl, rfl, rfl⟩ rfl rfl rfl rfl rfl (by kernel_rfl) Try.func5 (by kernel_rfl)
    (of_decide_eq_true (by kernel_rfl)) (by unfold Func.isWrapper; first | (rw [if_pos (by decide +kernel)]; kernel_rfl) | (rw [if_neg (by decide +kernel)]; exact ⟨rfl, rfl⟩))
    (fun os started H enc _ => lifted os started H enc)

theorem proved : Rows.FnExactFirstBadSignatureSaid := over
#print axioms proved
end Go.Proofs.Ytiphndgmgpiodaa.fnExactFirstBadSignature
