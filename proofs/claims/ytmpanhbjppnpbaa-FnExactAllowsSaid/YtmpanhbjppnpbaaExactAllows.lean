
/- For every policy, every segment and every interface, the law on Allows returns true; no further condition. -/
import Derived.Test.YtmpanhbjppnpbaaRows
import Derived.WalkKit
import Derived.ProofKit
import Derived.OpenShut
import Derived.ShutString
import Derived.ChangeOld
import Derived.Below
import Derived.Test.YtmpanhbjppnpbaaStruct
import Derived.Test.YtmpanhbjppnpbaaOHop
import Derived.Test.YtmpanhbjppnpbaaZHop
import Derived.Test.YtmpanhbjppnpbaaStruct
import Derived.Deep.RegionHeld3
import Derived.Test.YtmpanhbjppnpbaaAllows
namespace Go.Proofs.Ytmpanhbjppnpbaa.fnExactAllows
open Go.ChangeShapes Go.WideShapes Go.ChangeAt Go.RowKit
open Go.ChangeMaps (open_string shut_string)
set_option linter.unusedVariables false

theorem own : ownKnob Try.prog.godebug = none := by kernel_rfl
theorem laidOut : laidOutB Try.prog = true := by kernel_rfl

set_option maxRecDepth 100000 in
set_option maxHeartbeats 4000000 in
theorem walk (a0_0 : Int) (a0_1 : Int) (a0_2 : Int) (a0_3 : Int) (a1_0 : Int) (a1_1 : Int) (a1_2 : Option Addr) (n1_2 c1_2 : Nat) (z1_2 : List THop) (a2 : Int) (w : World) (w0_0 : (Lit.int .i64 a0_0).wf = true) (w0_1 : (Lit.int .i64 a0_1).wf = true) (w0_2 : (Lit.int .i64 a0_2).wf = true) (w0_3 : (Lit.int .i64 a0_3).wf = true) (w1_0 : (Lit.int .i64 a1_0).wf = true) (w1_1 : (Lit.int .i64 a1_1).wf = true) (h1_2 : HasHop w w.heap.size a1_2 n1_2 z1_2) (m1_2 : n1_2 ≤ 9223372036854775807) (f1_2 : ∀ x ∈ z1_2, THop.fits x) (w2 : (Lit.int .i64 a2).wf = true) :
    Calls Try.prog 4 #[.agg #[.int .i64 a0_0, .int .i64 a0_1, .int .i64 a0_2, .int .i64 a0_3], .agg #[.int .i64 a1_0, .int .i64 a1_1, .slice a1_2 n1_2 c1_2], .int .i64 a2] w fun e w' => e = .returned (.bool true) ∧ Below w.heap.size w w' := by
  by_cases hbig1 : (1048576 : Int) < (n1_2 : Int)
  · go_enter Try.func4, Try.ntmps4
    go_wp2_with fail
    have M0 : Mk0 w ((w.alloc (Obj.cells #[Value.int .i64 a0_0, Value.int .i64 a0_1, Value.int .i64 a0_2, Value.int .i64 a0_3] 45)).alloc (Obj.cells #[Value.int .i64 a1_0, Value.int .i64 a1_1, Value.slice a1_2 n1_2 c1_2] 28)) := ((Mk.alloc w _).new _)
    have k0_0 : ((w.alloc (Obj.cells #[Value.int .i64 a0_0, Value.int .i64 a0_1, Value.int .i64 a0_2, Value.int .i64 a0_3] 45)).alloc (Obj.cells #[Value.int .i64 a1_0, Value.int .i64 a1_1, Value.slice a1_2 n1_2 c1_2] 28)).cell? ⟨w.heap.size, 0, none⟩ = some (.int .i64 a0_0) := by simp [go_sem]
    have k0_1 : ((w.alloc (Obj.cells #[Value.int .i64 a0_0, Value.int .i64 a0_1, Value.int .i64 a0_2, Value.int .i64 a0_3] 45)).alloc (Obj.cells #[Value.int .i64 a1_0, Value.int .i64 a1_1, Value.slice a1_2 n1_2 c1_2] 28)).cell? ⟨w.heap.size, 1, none⟩ = some (.int .i64 a0_1) := by simp [go_sem]
    have k0_2 : ((w.alloc (Obj.cells #[Value.int .i64 a0_0, Value.int .i64 a0_1, Value.int .i64 a0_2, Value.int .i64 a0_3] 45)).alloc (Obj.cells #[Value.int .i64 a1_0, Value.int .i64 a1_1, Value.slice a1_2 n1_2 c1_2] 28)).cell? ⟨w.heap.size, 2, none⟩ = some (.int .i64 a0_2) := by simp [go_sem]
    have k0_3 : ((w.alloc (Obj.cells #[Value.int .i64 a0_0, Value.int .i64 a0_1, Value.int .i64 a0_2, Value.int .i64 a0_3] 45)).alloc (Obj.cells #[Value.int .i64 a1_0, Value.int .i64 a1_1, Value.slice a1_2 n1_2 c1_2] 28)).cell? ⟨w.heap.size, 3, none⟩ = some (.int .i64 a0_3) := by simp [go_sem]
    have k1_0 : ((w.alloc (Obj.cells #[Value.int .i64 a0_0, Value.int .i64 a0_1, Value.int .i64 a0_2, Value.int .i64 a0_3] 45)).alloc (Obj.cells #[Value.int .i64 a1_0, Value.int .i64 a1_1, Value.slice a1_2 n1_2 c1_2] 28)).cell? ⟨w.heap.size + 1, 0, none⟩ = some (.int .i64 a1_0) := by simp [go_sem]
    have k1_1 : ((w.alloc (Obj.cells #[Value.int .i64 a0_0, Value.int .i64 a0_1, Value.int .i64 a0_2, Value.int .i64 a0_3] 45)).alloc (Obj.cells #[Value.int .i64 a1_0, Value.int .i64 a1_1, Value.slice a1_2 n1_2 c1_2] 28)).cell? ⟨w.heap.size + 1, 1, none⟩ = some (.int .i64 a1_1) := by simp [go_sem]
    have k1_2 : ((w.alloc (Obj.cells #[Value.int .i64 a0_0, Value.int .i64 a0_1, Value.int .i64 a0_2, Value.int .i64 a0_3] 45)).alloc (Obj.cells #[Value.int .i64 a1_0, Value.int .i64 a1_1, Value.slice a1_2 n1_2 c1_2] 28)).cell? ⟨w.heap.size + 1, 2, none⟩ = some (.slice a1_2 n1_2 c1_2) := by simp [go_sem]
    refine (szSegmentB _ _ _ _ _ _ _ (by omega) (by omega) (by omega) m1_2).mono ?_
    rintro e w1 ⟨rfl, m1⟩
    go_wp2_with fail
    go_ret
    exact ⟨rfl, (M0.trans m1).below0⟩
  have hn1 : (n1_2 : Int) ≤ (1048576 : Int) := by omega
  clear hbig1
  go_enter Try.func4, Try.ntmps4
  go_wp2_with fail
  have M0 : Mk0 w ((w.alloc (Obj.cells #[Value.int .i64 a0_0, Value.int .i64 a0_1, Value.int .i64 a0_2, Value.int .i64 a0_3] 45)).alloc (Obj.cells #[Value.int .i64 a1_0, Value.int .i64 a1_1, Value.slice a1_2 n1_2 c1_2] 28)) := ((Mk.alloc w _).new _)
  have k0_0 : ((w.alloc (Obj.cells #[Value.int .i64 a0_0, Value.int .i64 a0_1, Value.int .i64 a0_2, Value.int .i64 a0_3] 45)).alloc (Obj.cells #[Value.int .i64 a1_0, Value.int .i64 a1_1, Value.slice a1_2 n1_2 c1_2] 28)).cell? ⟨w.heap.size, 0, none⟩ = some (.int .i64 a0_0) := by simp [go_sem]
  have k0_1 : ((w.alloc (Obj.cells #[Value.int .i64 a0_0, Value.int .i64 a0_1, Value.int .i64 a0_2, Value.int .i64 a0_3] 45)).alloc (Obj.cells #[Value.int .i64 a1_0, Value.int .i64 a1_1, Value.slice a1_2 n1_2 c1_2] 28)).cell? ⟨w.heap.size, 1, none⟩ = some (.int .i64 a0_1) := by simp [go_sem]
  have k0_2 : ((w.alloc (Obj.cells #[Value.int .i64 a0_0, Value.int .i64 a0_1, Value.int .i64 a0_2, Value.int .i64 a0_3] 45)).alloc (Obj.cells #[Value.int .i64 a1_0, Value.int .i64 a1_1, Value.slice a1_2 n1_2 c1_2] 28)).cell? ⟨w.heap.size, 2, none⟩ = some (.int .i64 a0_2) := by simp [go_sem]
  have k0_3 : ((w.alloc (Obj.cells #[Value.int .i64 a0_0, Value.int .i64 a0_1, Value.int .i64 a0_2, Value.int .i64 a0_3] 45)).alloc (Obj.cells #[Value.int .i64 a1_0, Value.int .i64 a1_1, Value.slice a1_2 n1_2 c1_2] 28)).cell? ⟨w.heap.size, 3, none⟩ = some (.int .i64 a0_3) := by simp [go_sem]
  have k1_0 : ((w.alloc (Obj.cells #[Value.int .i64 a0_0, Value.int .i64 a0_1, Value.int .i64 a0_2, Value.int .i64 a0_3] 45)).alloc (Obj.cells #[Value.int .i64 a1_0, Value.int .i64 a1_1, Value.slice a1_2 n1_2 c1_2] 28)).cell? ⟨w.heap.size + 1, 0, none⟩ = some (.int .i64 a1_0) := by simp [go_sem]
  have k1_1 : ((w.alloc (Obj.cells #[Value.int .i64 a0_0, Value.int .i64 a0_1, Value.int .i64 a0_2, Value.int .i64 a0_3] 45)).alloc (Obj.cells #[Value.int .i64 a1_0, Value.int .i64 a1_1, Value.slice a1_2 n1_2 c1_2] 28)).cell? ⟨w.heap.size + 1, 1, none⟩ = some (.int .i64 a1_1) := by simp [go_sem]
  have k1_2 : ((w.alloc (Obj.cells #[Value.int .i64 a0_0, Value.int .i64 a0_1, Value.int .i64 a0_2, Value.int .i64 a0_3] 45)).alloc (Obj.cells #[Value.int .i64 a1_0, Value.int .i64 a1_1, Value.slice a1_2 n1_2 c1_2] 28)).cell? ⟨w.heap.size + 1, 2, none⟩ = some (.slice a1_2 n1_2 c1_2) := by simp [go_sem]
  refine (szSegmentC _ _ _ _ _ _ _ (by omega) (by omega) (by omega)).mono ?_
  rintro e w1 ⟨l1, hl1, rfl, m1⟩
  have M1 := M0.trans m1
  replace k0_0 := m1.cellAt k0_0
  replace k0_1 := m1.cellAt k0_1
  replace k0_2 := m1.cellAt k0_2
  replace k0_3 := m1.cellAt k0_3
  replace k1_0 := m1.cellAt k1_0
  replace k1_1 := m1.cellAt k1_1
  replace k1_2 := m1.cellAt k1_2
  have z1 := m1.size
  simp only [World.size_alloc] at z1
  go_wp2_with fail
  have e1 : ∀ w', Mk0 w1 w' → HasHop w' w.heap.size a1_2 n1_2 z1_2 := fun w' m => h1_2.mk (M1.trans m) (Nat.le_refl _) (.inr (Nat.le_refl _))
  have hN1_2 : n1_2 ≤ 1048576 := by omega
  go_region_held3 (fun w' => Mk0 w1 w' ∧ w'.cell? ⟨w.heap.size, 0, none⟩ = some (.int .i64 a0_0) ∧ w'.cell? ⟨w.heap.size, 1, none⟩ = some (.int .i64 a0_1) ∧ w'.cell? ⟨w.heap.size, 2, none⟩ = some (.int .i64 a0_2) ∧ w'.cell? ⟨w.heap.size, 3, none⟩ = some (.int .i64 a0_3) ∧ w'.cell? ⟨w.heap.size + 1, 0, none⟩ = some (.int .i64 a1_0) ∧ w'.cell? ⟨w.heap.size + 1, 1, none⟩ = some (.int .i64 a1_1) ∧ w'.cell? ⟨w.heap.size + 1, 2, none⟩ = some (.slice a1_2 n1_2 c1_2)) (first | exact ⟨Mk.drew1 _, k0_0, k0_1, k0_2, k0_3, k1_0, k1_1, k1_2⟩ | (obtain ⟨s0, s1, s2, s3, s4, s5, s6, s7⟩ := ‹Mk0 w1 _ ∧ _›; exact ⟨s0.trans mm, mm.cellAt s1, mm.cellAt s2, mm.cellAt s3, mm.cellAt s4, mm.cellAt s5, mm.cellAt s6, mm.cellAt s7⟩)) (first | (go_at_call 17; with_reducible refine (toPolicyI a0_0 a0_1 a0_2 a0_3 _).mono ?_; rintro e wf0 ⟨rfl, mf0⟩; have mm := mf0) | (go_at_call 12; with_reducible refine (toSegmentC a1_0 a1_1 a1_2 n1_2 c1_2 z1_2 w.heap.size _ (e1 _ (‹Mk0 w1 _ ∧ _›).1) (M1.trans (‹Mk0 w1 _ ∧ _›).1).size hN1_2).mono ?_; rintro e wc1 ⟨bc1_0, rfl, oc1_0, gc1_0, mc1⟩; have mm := mc1) | (go_at_call 16; refine (specAllows ⟨a0_0, a0_1, a0_2, a0_3⟩ _ _ _ _ _ _ z1_2 a2 _ (by first | exact (oc1_0.has.mono (Nat.le_refl _)) | exact (oc1_0.has.mono (Nat.le_refl _)).mk mf0 (Nat.le_refl _) (.inr (Nat.le_refl _))) (by first | exact Nat.le_refl _ | exact mf0.size) hN1_2).mono ?_; rintro e wz2 ⟨rfl, mm⟩))
  all_goals (
    obtain ⟨m2, k0_0, k0_1, k0_2, k0_3, k1_0, k1_1, k1_2⟩ := ‹Mk0 w1 _ ∧ _›
    refine ‹∀ (a : Act) (w : World), _ → _› _ _ ?_
    clear e1 hN1_2
    have M2 := M1.trans m2
    have z2 := m2.size
    go_wp2_with fail
    refine (toSegmentC _ _ _ _ _ _ w.heap.size _ (h1_2.mk M2 (Nat.le_refl _) (.inr (Nat.le_refl _))) (by omega) (by omega)).mono ?_
    rintro e w3 ⟨b2, rfl, o3, g4, m3⟩
    have M3 := M2.trans m3
    have z3 := m3.size
    replace k0_0 := m3.cellAt k0_0
    replace k0_1 := m3.cellAt k0_1
    replace k0_2 := m3.cellAt k0_2
    replace k0_3 := m3.cellAt k0_3
    replace k1_0 := m3.cellAt k1_0
    replace k1_1 := m3.cellAt k1_1
    replace k1_2 := m3.cellAt k1_2
    have h5 := o3.has.mono (B' := w3.heap.size) (by omega)
    clear o3
    have yb6 : w.heap.size < w3.heap.size := by omega
    have yb7 : w.heap.size + 1 < w3.heap.size := by omega
    go_wp2_with fail
    have xx1_0 : (w3.alloc (Obj.cells #[Value.int .i64 a1_0, Value.int .i64 a1_1, Value.slice (some ⟨b2, 0, none⟩) n1_2 n1_2] 39)).cell? ⟨w3.heap.size, 0, none⟩ = some (.int .i64 a1_0) := by rw [World.cell?_alloc_at _ _ _ _ rfl]; rfl
    have xx1_1 : (w3.alloc (Obj.cells #[Value.int .i64 a1_0, Value.int .i64 a1_1, Value.slice (some ⟨b2, 0, none⟩) n1_2 n1_2] 39)).cell? ⟨w3.heap.size, 1, none⟩ = some (.int .i64 a1_1) := by rw [World.cell?_alloc_at _ _ _ _ rfl]; rfl
    have xx1_2 : (w3.alloc (Obj.cells #[Value.int .i64 a1_0, Value.int .i64 a1_1, Value.slice (some ⟨b2, 0, none⟩) n1_2 n1_2] 39)).cell? ⟨w3.heap.size, 2, none⟩ = some (.slice (some ⟨b2, 0, none⟩) n1_2 n1_2) := by rw [World.cell?_alloc_at _ _ _ _ rfl]; rfl
    have m4 := Mk.alloc w3 (Obj.cells #[Value.int .i64 a1_0, Value.int .i64 a1_1, Value.slice (some ⟨b2, 0, none⟩) n1_2 n1_2] 39)
    replace k0_0 := m4.cellAt k0_0
    replace k0_1 := m4.cellAt k0_1
    replace k0_2 := m4.cellAt k0_2
    replace k0_3 := m4.cellAt k0_3
    replace k1_0 := m4.cellAt k1_0
    replace k1_1 := m4.cellAt k1_1
    replace k1_2 := m4.cellAt k1_2
    replace h5 := h5.mk m4 (by omega) (.inr (Nat.le_refl _))
    have M4 := M3.trans m4
    have z4 := m4.size
    have zz4 : w3.heap.size < (w3.alloc (Obj.cells #[Value.int .i64 a1_0, Value.int .i64 a1_1, Value.slice (some ⟨b2, 0, none⟩) n1_2 n1_2] 39)).heap.size := by rw [World.size_alloc]; omega
    generalize (w3.alloc (Obj.cells #[Value.int .i64 a1_0, Value.int .i64 a1_1, Value.slice (some ⟨b2, 0, none⟩) n1_2 n1_2] 39)) = w4 at *
    have e8 : ∀ w', Mk0 w4 w' → HasHop w' w3.heap.size (some ⟨b2, 0, none⟩) n1_2 z1_2 := fun w' m => h5.mk m (by omega) (.inr (Nat.le_refl _))
    have e9 : ∀ w', Mk0 w4 w' → w3.heap.size ≤ w'.heap.size := fun w' m => Nat.le_trans (by omega) m.size
    have hN1_2 : n1_2 ≤ 1048576 := by omega
    go_region_held3 (fun w' => Mk0 w4 w' ∧ w'.cell? ⟨w.heap.size, 0, none⟩ = some (.int .i64 a0_0) ∧ w'.cell? ⟨w.heap.size, 1, none⟩ = some (.int .i64 a0_1) ∧ w'.cell? ⟨w.heap.size, 2, none⟩ = some (.int .i64 a0_2) ∧ w'.cell? ⟨w.heap.size, 3, none⟩ = some (.int .i64 a0_3) ∧ w'.cell? ⟨w.heap.size + 1, 0, none⟩ = some (.int .i64 a1_0) ∧ w'.cell? ⟨w.heap.size + 1, 1, none⟩ = some (.int .i64 a1_1) ∧ w'.cell? ⟨w.heap.size + 1, 2, none⟩ = some (.slice a1_2 n1_2 c1_2) ∧ w'.cell? ⟨w3.heap.size, 0, none⟩ = some (.int .i64 a1_0) ∧ w'.cell? ⟨w3.heap.size, 1, none⟩ = some (.int .i64 a1_1) ∧ w'.cell? ⟨w3.heap.size, 2, none⟩ = some (.slice (some ⟨b2, 0, none⟩) n1_2 n1_2)) (first | exact ⟨Mk.drew1 _, k0_0, k0_1, k0_2, k0_3, k1_0, k1_1, k1_2, xx1_0, xx1_1, xx1_2⟩ | (obtain ⟨s0, s1, s2, s3, s4, s5, s6, s7, s8, s9, s10⟩ := ‹Mk0 w4 _ ∧ _›; exact ⟨s0.trans mm, mm.cellAt s1, mm.cellAt s2, mm.cellAt s3, mm.cellAt s4, mm.cellAt s5, mm.cellAt s6, mm.cellAt s7, mm.cellAt s8, mm.cellAt s9, mm.cellAt s10⟩)) (first | (go_at_call 17; with_reducible refine (toPolicyI a0_0 a0_1 a0_2 a0_3 _).mono ?_; rintro e wf0 ⟨rfl, mf0⟩; have mm := mf0) | (go_at_call 18; refine (implAllows ⟨a0_0, a0_1, a0_2, a0_3⟩ _ _ _ _ _ _ z1_2 a2 _ (e8 _ (‹Mk0 w4 _ ∧ _›).1) (e9 _ (‹Mk0 w4 _ ∧ _›).1) hN1_2).mono ?_; rintro e wz5 ⟨rfl, mm⟩))
    obtain ⟨m5, k0_0, k0_1, k0_2, k0_3, k1_0, k1_1, k1_2, xx1_0, xx1_1, xx1_2⟩ := ‹Mk0 w4 _ ∧ _›
    refine ‹∀ (a : Act) (w : World), _ → _› _ _ ?_
    clear e8 e9 hN1_2
    have M5 := M4.trans m5
    have z5 := m5.size
    replace h5 := h5.mk m5 (by omega) (.inr (Nat.le_refl _))
    go_wp2_with fail
    have e10 : ∀ w', Mk0 wz5 w' → HasHop w' w3.heap.size (some ⟨b2, 0, none⟩) n1_2 z1_2 := fun w' m => h5.mk m (by omega) (.inr (Nat.le_refl _))
    have e11 : ∀ w', Mk0 wz5 w' → w3.heap.size ≤ w'.heap.size := fun w' m => Nat.le_trans (by omega) m.size
    have e12 : ∀ w', Mk0 wz5 w' → HasHop w' w.heap.size a1_2 n1_2 z1_2 := fun w' m => h1_2.mk (M5.trans m) (Nat.le_refl _) (.inr (Nat.le_refl _))
    have hN1_2 : n1_2 ≤ 1048576 := by omega
    go_region_held3 (fun w' => Mk0 wz5 w' ∧ w'.cell? ⟨w.heap.size, 0, none⟩ = some (.int .i64 a0_0) ∧ w'.cell? ⟨w.heap.size, 1, none⟩ = some (.int .i64 a0_1) ∧ w'.cell? ⟨w.heap.size, 2, none⟩ = some (.int .i64 a0_2) ∧ w'.cell? ⟨w.heap.size, 3, none⟩ = some (.int .i64 a0_3) ∧ w'.cell? ⟨w.heap.size + 1, 0, none⟩ = some (.int .i64 a1_0) ∧ w'.cell? ⟨w.heap.size + 1, 1, none⟩ = some (.int .i64 a1_1) ∧ w'.cell? ⟨w.heap.size + 1, 2, none⟩ = some (.slice a1_2 n1_2 c1_2) ∧ w'.cell? ⟨w3.heap.size, 0, none⟩ = some (.int .i64 a1_0) ∧ w'.cell? ⟨w3.heap.size, 1, none⟩ = some (.int .i64 a1_1) ∧ w'.cell? ⟨w3.heap.size, 2, none⟩ = some (.slice (some ⟨b2, 0, none⟩) n1_2 n1_2)) (first | exact ⟨Mk.drew1 _, k0_0, k0_1, k0_2, k0_3, k1_0, k1_1, k1_2, xx1_0, xx1_1, xx1_2⟩ | (obtain ⟨s0, s1, s2, s3, s4, s5, s6, s7, s8, s9, s10⟩ := ‹Mk0 wz5 _ ∧ _›; exact ⟨s0.trans mm, mm.cellAt s1, mm.cellAt s2, mm.cellAt s3, mm.cellAt s4, mm.cellAt s5, mm.cellAt s6, mm.cellAt s7, mm.cellAt s8, mm.cellAt s9, mm.cellAt s10⟩)) (first | (go_at_call 12; refine (toSegmentC _ _ _ _ _ _ w.heap.size _ (e12 _ (‹Mk0 wz5 _ ∧ _›).1) (M5.trans (‹Mk0 wz5 _ ∧ _›).1).size hN1_2).mono ?_; rintro e wa ⟨bb0, rfl, oo0, gg0, mm⟩) | (go_at_call 15; refine (eqSegmentC _ _ _ _ _ _ _ _ _ _ _ (e10 _ (‹Mk0 wz5 _ ∧ _›).1) (oo0.has.mono (Nat.le_refl _)) (e11 _ (‹Mk0 wz5 _ ∧ _›).1) (Nat.le_refl _) hN1_2).mono ?_; rintro e wb6 ⟨rfl, mm⟩))
    obtain ⟨m6, k0_0, k0_1, k0_2, k0_3, k1_0, k1_1, k1_2, xx1_0, xx1_1, xx1_2⟩ := ‹Mk0 wz5 _ ∧ _›
    clear e10 e11 e12 hN1_2
    refine ‹∀ (a : Act) (w : World), _ → _› _ _ ?_
    have M6 := M5.trans m6
    have z6 := m6.size
    replace h5 := h5.mk m6 (by omega) (.inr (Nat.le_refl _))
    go_wp2_with fail
    go_ret
    exact ⟨rfl, M6.below0⟩)

set_option maxRecDepth 100000 in
theorem lifted (os : Os) (started : os.Started) (H : Type) (enc : TypeId × Value → H) :
    ReturnsInHanded {} Try.checked os 4 .any (Rows.fnExactAllowsSpec.pre6 enc Try.prog Try.f4 Rows.fnExactAllowsRow.domain false) (Rows.fnExactAllowsSpec.post enc Try.prog Try.f4 false true false false) := by
  refine returnsInHanded_of_change (C := Try.checked) own started (by kernel_rfl) Try.func4
    (ChangeSpec.witness6 (enc := enc) (C := Try.checked) false ⟨#[], #[.agg #[.int .i64 0, .int .i64 0, .int .i64 0, .int .i64 0], .agg #[.int .i64 0, .int .i64 0, .slice none 0 0], .int .i64 0], []⟩ 8 (by kernel_rfl) (by kernel_rfl) (by kernel_rfl) (by kernel_rfl)) ?_
  intro W base args ds gs before hval0 hW hcnd _
  have hval : ∀ (j : Nat) t v, Try.f4.params[j]? = some t → args[j]? = some v → Value.okWide Try.prog W .any base t v := hval0
  have hW' := hW
  obtain ⟨p, q, hA0, hV, rfl, hfz, hnd⟩ := hW
  have hA : DataW.TrodAll enc Try.prog W 0 (fun _ => true) true Try.f4.params.toList args.toList ds p := hA0
  rw [Try.params4] at hA hval
  obtain ⟨v0, vs0, d0, ds0, p0, q0, hargs, rfl, rfl, h0, r0⟩ := trodAll_cons hA
  obtain ⟨v1, vs1, d1, ds1, p1, q1, rfl, rfl, rfl, h1, r1⟩ := trodAll_cons r0
  obtain ⟨v2, vs2, d2, ds2, p2, q2, rfl, rfl, rfl, h2, r2⟩ := trodAll_cons r1
  obtain ⟨rfl, rfl, rfl⟩ := trodAll_nil r2
  obtain rfl : args = #[v0, v1, v2] := by cases args; simp_all
  obtain ⟨rfl, rfl⟩ := trodVars_none hV
  have k0 := h0
  have lt0 : ∀ x ∈ p0, x.block < W.heap.size := by obtain ⟨m, hm⟩ := k0; exact DataW.trod_lt m _ _ _ hm
  obtain ⟨cs0, rfl, hcs0, hf0⟩ := open_flat Try.underlying45 (by kernel_rfl) (by kernel_rfl) (hval 0 45 v0 rfl rfl) h0
  obtain ⟨_, e0_0, qi, _⟩ := hf0 0 _ rfl; obtain ⟨a0_0, rfl, w0_0⟩ := qi Try.underlying3
  obtain ⟨_, e0_1, qi, _⟩ := hf0 1 _ rfl; obtain ⟨a0_1, rfl, w0_1⟩ := qi Try.underlying3
  obtain ⟨_, e0_2, qi, _⟩ := hf0 2 _ rfl; obtain ⟨a0_2, rfl, w0_2⟩ := qi Try.underlying3
  obtain ⟨_, e0_3, qi, _⟩ := hf0 3 _ rfl; obtain ⟨a0_3, rfl, w0_3⟩ := qi Try.underlying3
  obtain rfl : cs0 = #[.int .i64 a0_0, .int .i64 a0_1, .int .i64 a0_2, .int .i64 a0_3] := arr_of [.int .i64 a0_0, .int .i64 a0_1, .int .i64 a0_2, .int .i64 a0_3] hcs0 (fun j hj => by match j, hj with | 0, _ => exact e0_0 | 1, _ => exact e0_1 | 2, _ => exact e0_2 | 3, _ => exact e0_3)
  have k1 := h1
  have lt1 : ∀ x ∈ p1, x.block < W.heap.size := by obtain ⟨m, hm⟩ := k1; exact DataW.trod_lt m _ _ _ hm
  obtain ⟨cs1, rfl, hcs1, hf1⟩ := open_agg Try.underlying28 (by kernel_rfl) (by kernel_rfl) (hval 1 28 v1 rfl rfl) h1
  obtain ⟨_, _, _, e1_0, q1_0⟩ := hf1 0 _ rfl
  obtain ⟨a1_0, rfl, w1_0⟩ := one_int Try.underlying3 q1_0
  obtain ⟨_, _, _, e1_1, q1_1⟩ := hf1 1 _ rfl
  obtain ⟨a1_1, rfl, w1_1⟩ := one_int Try.underlying3 q1_1
  obtain ⟨_, _, _, e1_2, q1_2⟩ := hf1 2 _ rfl
  obtain ⟨a1_2, n1_2, c1_2, z1_2, rfl, m1_2, h1_2, f1_2⟩ := openHopS q1_2
  obtain rfl : cs1 = #[.int .i64 a1_0, .int .i64 a1_1, .slice a1_2 n1_2 c1_2] := arr_of [.int .i64 a1_0, .int .i64 a1_1, .slice a1_2 n1_2 c1_2] hcs1 (fun j hj => by match j, hj with | 0, _ => exact e1_0 | 1, _ => exact e1_1 | 2, _ => exact e1_2)
  obtain ⟨a2, rfl, rfl, rfl, w2⟩ := open_int Try.underlying3 (hval 2 3 v2 rfl rfl) h2
  clear hA0 hval0
  refine (walk a0_0 a0_1 a0_2 a0_3 a1_0 a1_1 a1_2 n1_2 c1_2 z1_2 a2 W w0_0 w0_1 w0_2 w0_3 w1_0 w1_1 h1_2 m1_2 f1_2 w2).mono fun e W' ⟨he, bel⟩ => ?_
  subst he
  exact ⟨_, rfl, _, _, _, [], _, [], hW', trodAll_mk1 (shut_bool Try.underlying4 _), (trodAll_cons_mk (Below.trod laidOut (by kernel_rfl) (of_decide_eq_true (by kernel_rfl)) k0 bel lt0) (trodAll_cons_mk (Below.trod laidOut (by kernel_rfl) (of_decide_eq_true (by kernel_rfl)) k1 bel lt1) (trodAll_cons_mk (shut_int Try.underlying3 w2) trodAll_mk0))), rfl, bel.frame _, fun h => by cases h⟩

theorem over : Rows.fnExactAllowsRow.holds Try.pinned (OpenSpec.ofChange Rows.fnExactAllowsSpec) :=
  OpenClaim.holds_of_wide 4 Try.f4 rfl rfl rfl rfl rfl rfl rfl ⟨rfl, rfl, rfl, rfl, rfl⟩ rfl rfl rfl rfl rfl (by kernel_rfl) Try.func4 (by kernel_rfl)
    (of_decide_eq_true (by kernel_rfl)) (by unfold Func.isWrapper; first | (rw [if_pos (by decide +kernel)]; kernel_rfl) | (rw [if_neg (by decide +kernel)]; exact ⟨rfl, rfl⟩))
    (fun os started H enc _ => lifted os started H enc)

theorem proved : Rows.FnExactAllowsSaid := over
#print axioms proved
end Go.Proofs.Ytmpanhbjppnpbaa.fnExactAllows
