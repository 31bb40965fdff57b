
/- For every topology, path and time, the law on Bidirectional returns true; no further condition. -/
import Derived.Test.YtifhhfndoifbhaaGreatRows
import Derived.WalkKit
import Derived.ProofKit
import Derived.OpenShut
import Derived.ShutString
import Derived.ChangeOld
import Derived.Below
import Derived.Test.YtifhhfndoifbhaaGreatOAS
import Derived.Test.YtifhhfndoifbhaaGreatZAS
import Derived.Test.YtifhhfndoifbhaaGreatOLink
import Derived.Test.YtifhhfndoifbhaaGreatZLink
import Derived.Test.YtifhhfndoifbhaaGreatOPathPart
import Derived.Test.YtifhhfndoifbhaaGreatStruct
import Derived.Deep.RegionHeld3
import Derived.Test.YtifhhfndoifbhaaGreatBidiM
namespace Go.Proofs.YtifhhfndoifbhaaGreat.fnExactBidirectional
open Go.ChangeShapes Go.WideShapes Go.ChangeAt Go.RowKit
open Go.ChangeMaps (open_string shut_string)
set_option linter.unusedVariables false

theorem own : ownKnob Tryz.prog.godebug = none := by kernel_rfl
theorem laidOut : laidOutB Tryz.prog = true := by kernel_rfl

set_option maxRecDepth 100000 in
set_option maxHeartbeats 4000000 in
theorem walk (a0_0 : Option Addr) (n0_0 c0_0 : Nat) (z0_0 : List TAS) (a0_1 : Option Addr) (n0_1 c0_1 : Nat) (z0_1 : List TLink) (a1_0 : Option Addr) (n1_0 c1_0 : Nat) (z1_0 : List TPathPart) (a2 : Int) (w : World) (h0_0 : HasAS w w.heap.size a0_0 n0_0 z0_0) (m0_0 : n0_0 ≤ 9223372036854775807) (f0_0 : ∀ x ∈ z0_0, TAS.fits x) (h0_1 : HasLink w w.heap.size a0_1 n0_1 z0_1) (m0_1 : n0_1 ≤ 9223372036854775807) (f0_1 : ∀ x ∈ z0_1, TLink.fits x) (h1_0 : HasPathPart w w.heap.size a1_0 n1_0 z1_0) (m1_0 : n1_0 ≤ 9223372036854775807) (f1_0 : ∀ x ∈ z1_0, TPathPart.fits x) (w2 : (Lit.int .i64 a2).wf = true) :
    Calls Tryz.prog 4 #[.agg #[.slice a0_0 n0_0 c0_0, .slice a0_1 n0_1 c0_1], .agg #[.slice a1_0 n1_0 c1_0], .int .i64 a2] w fun e w' => e = .returned (.bool true) ∧ Below w.heap.size w w' := by
  by_cases hbig0 : (1048576 : Int) < (n0_0 : Int) + (n0_1 : Int)
  · go_enter Tryz.func4, Tryz.ntmps4
    go_wp2_with fail
    have M0 : Mk0 w ((w.alloc (Obj.cells #[Value.slice a0_0 n0_0 c0_0, Value.slice a0_1 n0_1 c0_1] 25)).alloc (Obj.cells #[Value.slice a1_0 n1_0 c1_0] 28)) := ((Mk.alloc w _).new _)
    have k0_0 : ((w.alloc (Obj.cells #[Value.slice a0_0 n0_0 c0_0, Value.slice a0_1 n0_1 c0_1] 25)).alloc (Obj.cells #[Value.slice a1_0 n1_0 c1_0] 28)).cell? ⟨w.heap.size, 0, none⟩ = some (.slice a0_0 n0_0 c0_0) := by simp [go_sem]
    have k0_1 : ((w.alloc (Obj.cells #[Value.slice a0_0 n0_0 c0_0, Value.slice a0_1 n0_1 c0_1] 25)).alloc (Obj.cells #[Value.slice a1_0 n1_0 c1_0] 28)).cell? ⟨w.heap.size, 1, none⟩ = some (.slice a0_1 n0_1 c0_1) := by simp [go_sem]
    have k1_0 : ((w.alloc (Obj.cells #[Value.slice a0_0 n0_0 c0_0, Value.slice a0_1 n0_1 c0_1] 25)).alloc (Obj.cells #[Value.slice a1_0 n1_0 c1_0] 28)).cell? ⟨w.heap.size + 1, 0, none⟩ = some (.slice a1_0 n1_0 c1_0) := by simp [go_sem]
    refine (szTopologyB _ _ _ _ _ _ _ _ (by omega) (by omega) (by omega) m0_0 m0_1).mono ?_
    rintro e w1 ⟨rfl, m1⟩
    go_wp2_with fail
    go_ret
    exact ⟨rfl, (M0.trans m1).below0⟩
  have hn0 : (n0_0 : Int) + (n0_1 : Int) ≤ (1048576 : Int) := by omega
  clear hbig0
  by_cases hbig1 : (1048576 - n0_0 - n0_1 : Int) < ((szPathPart z1_0 n1_0 : Nat) : Int)
  · go_enter Tryz.func4, Tryz.ntmps4
    go_wp2_with fail
    have M0 : Mk0 w ((w.alloc (Obj.cells #[Value.slice a0_0 n0_0 c0_0, Value.slice a0_1 n0_1 c0_1] 25)).alloc (Obj.cells #[Value.slice a1_0 n1_0 c1_0] 28)) := ((Mk.alloc w _).new _)
    have k0_0 : ((w.alloc (Obj.cells #[Value.slice a0_0 n0_0 c0_0, Value.slice a0_1 n0_1 c0_1] 25)).alloc (Obj.cells #[Value.slice a1_0 n1_0 c1_0] 28)).cell? ⟨w.heap.size, 0, none⟩ = some (.slice a0_0 n0_0 c0_0) := by simp [go_sem]
    have k0_1 : ((w.alloc (Obj.cells #[Value.slice a0_0 n0_0 c0_0, Value.slice a0_1 n0_1 c0_1] 25)).alloc (Obj.cells #[Value.slice a1_0 n1_0 c1_0] 28)).cell? ⟨w.heap.size, 1, none⟩ = some (.slice a0_1 n0_1 c0_1) := by simp [go_sem]
    have k1_0 : ((w.alloc (Obj.cells #[Value.slice a0_0 n0_0 c0_0, Value.slice a0_1 n0_1 c0_1] 25)).alloc (Obj.cells #[Value.slice a1_0 n1_0 c1_0] 28)).cell? ⟨w.heap.size + 1, 0, none⟩ = some (.slice a1_0 n1_0 c1_0) := by simp [go_sem]
    refine (szTopologyC _ _ _ _ _ _ _ _ (by omega) (by omega) (by omega)).mono ?_
    rintro e w1 ⟨l1, hl1, rfl, m1⟩
    have M1 := M0.trans m1
    replace k0_0 := m1.cellAt k0_0
    replace k0_1 := m1.cellAt k0_1
    replace k1_0 := m1.cellAt k1_0
    have z1 := m1.size
    simp only [World.size_alloc] at z1
    go_wp2_with fail
    refine (szPathB _ _ _ z1_0 w.heap.size _ _ (h1_0.mk M1 (Nat.le_refl _) (.inr (Nat.le_refl _))) M1.size (by omega) (by omega) (by omega) m1_0).mono ?_
    rintro e w2 ⟨rfl, m2⟩
    go_wp2_with fail
    go_ret
    exact ⟨rfl, (M1.trans m2).below0⟩
  have hn1 : ((szPathPart z1_0 n1_0 : Nat) : Int) ≤ (1048576 - n0_0 - n0_1 : Int) := by omega
  clear hbig1
  go_enter Tryz.func4, Tryz.ntmps4
  go_wp2_with fail
  have M0 : Mk0 w ((w.alloc (Obj.cells #[Value.slice a0_0 n0_0 c0_0, Value.slice a0_1 n0_1 c0_1] 25)).alloc (Obj.cells #[Value.slice a1_0 n1_0 c1_0] 28)) := ((Mk.alloc w _).new _)
  have k0_0 : ((w.alloc (Obj.cells #[Value.slice a0_0 n0_0 c0_0, Value.slice a0_1 n0_1 c0_1] 25)).alloc (Obj.cells #[Value.slice a1_0 n1_0 c1_0] 28)).cell? ⟨w.heap.size, 0, none⟩ = some (.slice a0_0 n0_0 c0_0) := by simp [go_sem]
  have k0_1 : ((w.alloc (Obj.cells #[Value.slice a0_0 n0_0 c0_0, Value.slice a0_1 n0_1 c0_1] 25)).alloc (Obj.cells #[Value.slice a1_0 n1_0 c1_0] 28)).cell? ⟨w.heap.size, 1, none⟩ = some (.slice a0_1 n0_1 c0_1) := by simp [go_sem]
  have k1_0 : ((w.alloc (Obj.cells #[Value.slice a0_0 n0_0 c0_0, Value.slice a0_1 n0_1 c0_1] 25)).alloc (Obj.cells #[Value.slice a1_0 n1_0 c1_0] 28)).cell? ⟨w.heap.size + 1, 0, none⟩ = some (.slice a1_0 n1_0 c1_0) := by simp [go_sem]
  refine (szTopologyC _ _ _ _ _ _ _ _ (by omega) (by omega) (by omega)).mono ?_
  rintro e w1 ⟨l1, hl1, rfl, m1⟩
  have M1 := M0.trans m1
  replace k0_0 := m1.cellAt k0_0
  replace k0_1 := m1.cellAt k0_1
  replace k1_0 := m1.cellAt k1_0
  have z1 := m1.size
  simp only [World.size_alloc] at z1
  go_wp2_with fail
  refine (szPathC _ _ _ z1_0 w.heap.size _ _ (h1_0.mk M1 (Nat.le_refl _) (.inr (Nat.le_refl _))) M1.size (by omega) (by omega) (by omega)).mono ?_
  rintro e w2 ⟨l2, hl2, rfl, m2⟩
  have M2 := M1.trans m2
  have z2 := m2.size
  replace k0_0 := m2.cellAt k0_0
  replace k0_1 := m2.cellAt k0_1
  replace k1_0 := m2.cellAt k1_0
  go_wp2_with fail
  have e1 : ∀ w', Mk0 w2 w' → HasAS w' w.heap.size a0_0 n0_0 z0_0 := fun w' m => h0_0.mk (M2.trans m) (Nat.le_refl _) (.inr (Nat.le_refl _))
  have e2 : ∀ w', Mk0 w2 w' → HasLink w' w.heap.size a0_1 n0_1 z0_1 := fun w' m => h0_1.mk (M2.trans m) (Nat.le_refl _) (.inr (Nat.le_refl _))
  have hN0_0 : n0_0 ≤ 1048576 := by omega
  have hN0_1 : n0_1 ≤ 1048576 := by omega
  have e3 : ∀ w', Mk0 w2 w' → HasPathPart w' w.heap.size a1_0 n1_0 z1_0 := fun w' m => h1_0.mk (M2.trans m) (Nat.le_refl _) (.inr (Nat.le_refl _))
  have hN1_0 : szPathPart z1_0 n1_0 ≤ 1048576 := by omega
  go_region_held3 (fun w' => Mk0 w2 w' ∧ w'.cell? ⟨w.heap.size, 0, none⟩ = some (.slice a0_0 n0_0 c0_0) ∧ w'.cell? ⟨w.heap.size, 1, none⟩ = some (.slice a0_1 n0_1 c0_1) ∧ w'.cell? ⟨w.heap.size + 1, 0, none⟩ = some (.slice a1_0 n1_0 c1_0)) (first | exact ⟨Mk.drew1 _, k0_0, k0_1, k1_0⟩ | (obtain ⟨s0, s1, s2, s3⟩ := ‹Mk0 w2 _ ∧ _›; exact ⟨s0.trans mm, mm.cellAt s1, mm.cellAt s2, mm.cellAt s3⟩)) (first | (go_at_call 8; with_reducible refine (toTopologyC a0_0 n0_0 c0_0 z0_0 a0_1 n0_1 c0_1 z0_1 w.heap.size _ (e1 _ (‹Mk0 w2 _ ∧ _›).1) (e2 _ (‹Mk0 w2 _ ∧ _›).1) (M2.trans (‹Mk0 w2 _ ∧ _›).1).size hN0_0 hN0_1).mono ?_; rintro e wc0 ⟨bc0_0, bc0_1, dc0_0, rfl, oc0_0, oc0_1, gc0_0, gc0_1, mc0⟩; have mm := mc0) | (go_at_call 9; with_reducible refine (toPathC a1_0 n1_0 c1_0 z1_0 w.heap.size _ (e3 _ (‹Mk0 w2 _ ∧ _›).1) (M2.trans (‹Mk0 w2 _ ∧ _›).1).size hN1_0).mono ?_; rintro e wc1 ⟨bc1_0, rfl, oc1_0, gc1_0, mc1⟩; have mm := mc1) | (go_at_call 13; refine (specBidi _ _ _ _ _ _ _ z0_0 z0_1 _ _ _ _ z1_0 a2 _ (by first | exact (oc0_0.has.mono gc0_1) | exact (oc0_0.has.mono gc0_1).mk mc1 (Nat.le_refl _) (.inr (Nat.le_refl _))) (by first | exact (oc0_1.has.mono (Nat.le_refl _)) | exact (oc0_1.has.mono (Nat.le_refl _)).mk mc1 (Nat.le_refl _) (.inr (Nat.le_refl _))) (by first | exact Nat.le_refl _ | exact mc1.size) hN0_0 hN0_1 f0_0 (by first | exact (oc1_0.has.mono (Nat.le_refl _)) | exact (oc1_0.has.mono (Nat.le_refl _)).mk mc0 (Nat.le_refl _) (.inr (Nat.le_refl _))) (by first | exact Nat.le_refl _ | exact mc0.size) hN1_0 f1_0 (Nat.le_refl _)).mono ?_; rintro e wz3 ⟨rfl, mm⟩))
  all_goals (
    obtain ⟨m3, k0_0, k0_1, k1_0⟩ := ‹Mk0 w2 _ ∧ _›
    refine ‹∀ (a : Act) (w : World), _ → _› _ _ ?_
    clear e1 e2 hN0_0 hN0_1 e3 hN1_0
    have M3 := M2.trans m3
    have z3 := m3.size
    go_wp2_with fail
    refine (toTopologyC _ _ _ _ _ _ _ _ w.heap.size _ (h0_0.mk M3 (Nat.le_refl _) (.inr (Nat.le_refl _))) (h0_1.mk M3 (Nat.le_refl _) (.inr (Nat.le_refl _))) (by omega) (by omega) (by omega)).mono ?_
    rintro e w4 ⟨b4, b5, d6, rfl, o7, o8, g9, g10, m4⟩
    have M4 := M3.trans m4
    have z4 := m4.size
    replace k0_0 := m4.cellAt k0_0
    replace k0_1 := m4.cellAt k0_1
    replace k1_0 := m4.cellAt k1_0
    have h11 := o7.has.mono (B' := w4.heap.size) (by omega)
    clear o7
    have h12 := o8.has.mono (B' := w4.heap.size) (by omega)
    clear o8
    have yb13 : w.heap.size < w4.heap.size := by omega
    have yb14 : w.heap.size + 1 < w4.heap.size := by omega
    go_wp2_with fail
    have xx0_0 : (w4.alloc (Obj.cells #[Value.slice (some ⟨b4, 0, none⟩) n0_0 n0_0, Value.slice (some ⟨b5, 0, none⟩) n0_1 n0_1] 35)).cell? ⟨w4.heap.size, 0, none⟩ = some (.slice (some ⟨b4, 0, none⟩) n0_0 n0_0) := by rw [World.cell?_alloc_at _ _ _ _ rfl]; rfl
    have xx0_1 : (w4.alloc (Obj.cells #[Value.slice (some ⟨b4, 0, none⟩) n0_0 n0_0, Value.slice (some ⟨b5, 0, none⟩) n0_1 n0_1] 35)).cell? ⟨w4.heap.size, 1, none⟩ = some (.slice (some ⟨b5, 0, none⟩) n0_1 n0_1) := by rw [World.cell?_alloc_at _ _ _ _ rfl]; rfl
    have m5 := Mk.alloc w4 (Obj.cells #[Value.slice (some ⟨b4, 0, none⟩) n0_0 n0_0, Value.slice (some ⟨b5, 0, none⟩) n0_1 n0_1] 35)
    replace k0_0 := m5.cellAt k0_0
    replace k0_1 := m5.cellAt k0_1
    replace k1_0 := m5.cellAt k1_0
    replace h11 := h11.mk m5 (by omega) (.inr (Nat.le_refl _))
    replace h12 := h12.mk m5 (by omega) (.inr (Nat.le_refl _))
    have M5 := M4.trans m5
    have z5 := m5.size
    have zz5 : w4.heap.size < (w4.alloc (Obj.cells #[Value.slice (some ⟨b4, 0, none⟩) n0_0 n0_0, Value.slice (some ⟨b5, 0, none⟩) n0_1 n0_1] 35)).heap.size := by rw [World.size_alloc]; omega
    generalize (w4.alloc (Obj.cells #[Value.slice (some ⟨b4, 0, none⟩) n0_0 n0_0, Value.slice (some ⟨b5, 0, none⟩) n0_1 n0_1] 35)) = w5 at *
    refine (toPathC _ _ _ _ w.heap.size _ (h1_0.mk M5 (Nat.le_refl _) (.inr (Nat.le_refl _))) (by omega) (by omega)).mono ?_
    rintro e w6 ⟨b15, rfl, o16, g17, m6⟩
    have M6 := M5.trans m6
    have z6 := m6.size
    replace k0_0 := m6.cellAt k0_0
    replace k0_1 := m6.cellAt k0_1
    replace k1_0 := m6.cellAt k1_0
    replace xx0_0 := m6.cellAt xx0_0
    replace xx0_1 := m6.cellAt xx0_1
    replace h11 := h11.mk m6 (by omega) (.inr (Nat.le_refl _))
    replace h12 := h12.mk m6 (by omega) (.inr (Nat.le_refl _))
    have h18 := o16.has.mono (B' := w6.heap.size) (by omega)
    clear o16
    have yb19 : w.heap.size < w6.heap.size := by omega
    have yb20 : w.heap.size + 1 < w6.heap.size := by omega
    have yb21 : w4.heap.size < w6.heap.size := by omega
    go_wp2_with fail
    have xx1_0 : (w6.alloc (Obj.cells #[Value.slice (some ⟨b15, 0, none⟩) n1_0 n1_0] 39)).cell? ⟨w6.heap.size, 0, none⟩ = some (.slice (some ⟨b15, 0, none⟩) n1_0 n1_0) := by rw [World.cell?_alloc_at _ _ _ _ rfl]; rfl
    have m7 := Mk.alloc w6 (Obj.cells #[Value.slice (some ⟨b15, 0, none⟩) n1_0 n1_0] 39)
    replace k0_0 := m7.cellAt k0_0
    replace k0_1 := m7.cellAt k0_1
    replace k1_0 := m7.cellAt k1_0
    replace xx0_0 := m7.cellAt xx0_0
    replace xx0_1 := m7.cellAt xx0_1
    replace h11 := h11.mk m7 (by omega) (.inr (Nat.le_refl _))
    replace h12 := h12.mk m7 (by omega) (.inr (Nat.le_refl _))
    replace h18 := h18.mk m7 (by omega) (.inr (Nat.le_refl _))
    have M7 := M6.trans m7
    have z7 := m7.size
    have zz7 : w6.heap.size < (w6.alloc (Obj.cells #[Value.slice (some ⟨b15, 0, none⟩) n1_0 n1_0] 39)).heap.size := by rw [World.size_alloc]; omega
    generalize (w6.alloc (Obj.cells #[Value.slice (some ⟨b15, 0, none⟩) n1_0 n1_0] 39)) = w7 at *
    have hN0_0 : n0_0 ≤ 1048576 := by omega
    have hN0_1 : n0_1 ≤ 1048576 := by omega
    have hN1_0 : szPathPart z1_0 n1_0 ≤ 1048576 := by omega
    refine (implBidi _ _ _ _ _ _ _ z0_0 z0_1 _ _ _ _ z1_0 a2 _ h11 h12 (by omega) hN0_0 hN0_1 f0_0 h18 (by omega) hN1_0 f1_0 (Nat.le_refl _)).mono ?_
    rintro e w8 ⟨rfl, m8⟩
    have M8 := M7.trans m8
    have z8 := m8.size
    replace k0_0 := m8.cellAt k0_0
    replace k0_1 := m8.cellAt k0_1
    replace k1_0 := m8.cellAt k1_0
    replace xx0_0 := m8.cellAt xx0_0
    replace xx0_1 := m8.cellAt xx0_1
    replace xx1_0 := m8.cellAt xx1_0
    replace h11 := h11.mk m8 (by omega) (.inr (Nat.le_refl _))
    replace h12 := h12.mk m8 (by omega) (.inr (Nat.le_refl _))
    replace h18 := h18.mk m8 (by omega) (.inr (Nat.le_refl _))
    go_wp2_with fail
    have e22 : ∀ w', Mk0 w8 w' → HasAS w' w4.heap.size (some ⟨b4, 0, none⟩) n0_0 z0_0 := fun w' m => h11.mk m (by omega) (.inr (Nat.le_refl _))
    have e23 : ∀ w', Mk0 w8 w' → HasLink w' w4.heap.size (some ⟨b5, 0, none⟩) n0_1 z0_1 := fun w' m => h12.mk m (by omega) (.inr (Nat.le_refl _))
    have e24 : ∀ w', Mk0 w8 w' → w4.heap.size ≤ w'.heap.size := fun w' m => Nat.le_trans (by omega) m.size
    have e25 : ∀ w', Mk0 w8 w' → HasAS w' w.heap.size a0_0 n0_0 z0_0 := fun w' m => h0_0.mk (M8.trans m) (Nat.le_refl _) (.inr (Nat.le_refl _))
    have e26 : ∀ w', Mk0 w8 w' → HasLink w' w.heap.size a0_1 n0_1 z0_1 := fun w' m => h0_1.mk (M8.trans m) (Nat.le_refl _) (.inr (Nat.le_refl _))
    have hN0_0 : n0_0 ≤ 1048576 := by omega
    have hN0_1 : n0_1 ≤ 1048576 := by omega
    go_region_held3 (fun w' => Mk0 w8 w' ∧ w'.cell? ⟨w.heap.size, 0, none⟩ = some (.slice a0_0 n0_0 c0_0) ∧ w'.cell? ⟨w.heap.size, 1, none⟩ = some (.slice a0_1 n0_1 c0_1) ∧ w'.cell? ⟨w.heap.size + 1, 0, none⟩ = some (.slice a1_0 n1_0 c1_0) ∧ w'.cell? ⟨w4.heap.size, 0, none⟩ = some (.slice (some ⟨b4, 0, none⟩) n0_0 n0_0) ∧ w'.cell? ⟨w4.heap.size, 1, none⟩ = some (.slice (some ⟨b5, 0, none⟩) n0_1 n0_1) ∧ w'.cell? ⟨w6.heap.size, 0, none⟩ = some (.slice (some ⟨b15, 0, none⟩) n1_0 n1_0)) (first | exact ⟨Mk.drew1 _, k0_0, k0_1, k1_0, xx0_0, xx0_1, xx1_0⟩ | (obtain ⟨s0, s1, s2, s3, s4, s5, s6⟩ := ‹Mk0 w8 _ ∧ _›; exact ⟨s0.trans mm, mm.cellAt s1, mm.cellAt s2, mm.cellAt s3, mm.cellAt s4, mm.cellAt s5, mm.cellAt s6⟩)) (first | (go_at_call 8; refine (toTopologyC _ _ _ _ _ _ _ _ w.heap.size _ (e25 _ (‹Mk0 w8 _ ∧ _›).1) (e26 _ (‹Mk0 w8 _ ∧ _›).1) (M8.trans (‹Mk0 w8 _ ∧ _›).1).size hN0_0 hN0_1).mono ?_; rintro e wa ⟨bb0, bb1, dd0, rfl, oo0, oo1, gg0, gg1, mm⟩) | (go_at_call 11; refine (eqTopologyC _ _ _ _ _ _ _ _ _ _ _ _ _ _ _ (e22 _ (‹Mk0 w8 _ ∧ _›).1) (e23 _ (‹Mk0 w8 _ ∧ _›).1) (oo0.has.mono gg1) (oo1.has.mono (Nat.le_refl _)) (e24 _ (‹Mk0 w8 _ ∧ _›).1) (Nat.le_refl _) hN0_0 hN0_1).mono ?_; rintro e wb9 ⟨rfl, mm⟩))
    obtain ⟨m9, k0_0, k0_1, k1_0, xx0_0, xx0_1, xx1_0⟩ := ‹Mk0 w8 _ ∧ _›
    clear e22 e23 e24 e25 e26 hN0_0 hN0_1
    refine ‹∀ (a : Act) (w : World), _ → _› _ _ ?_
    have M9 := M8.trans m9
    have z9 := m9.size
    replace h11 := h11.mk m9 (by omega) (.inr (Nat.le_refl _))
    replace h12 := h12.mk m9 (by omega) (.inr (Nat.le_refl _))
    replace h18 := h18.mk m9 (by omega) (.inr (Nat.le_refl _))
    go_wp2_with fail
    have e27 : ∀ w', Mk0 wb9 w' → HasPathPart w' w6.heap.size (some ⟨b15, 0, none⟩) n1_0 z1_0 := fun w' m => h18.mk m (by omega) (.inr (Nat.le_refl _))
    have e28 : ∀ w', Mk0 wb9 w' → w6.heap.size ≤ w'.heap.size := fun w' m => Nat.le_trans (by omega) m.size
    have e29 : ∀ w', Mk0 wb9 w' → HasPathPart w' w.heap.size a1_0 n1_0 z1_0 := fun w' m => h1_0.mk (M9.trans m) (Nat.le_refl _) (.inr (Nat.le_refl _))
    have hN1_0 : szPathPart z1_0 n1_0 ≤ 1048576 := by omega
    go_region_held3 (fun w' => Mk0 wb9 w' ∧ w'.cell? ⟨w.heap.size, 0, none⟩ = some (.slice a0_0 n0_0 c0_0) ∧ w'.cell? ⟨w.heap.size, 1, none⟩ = some (.slice a0_1 n0_1 c0_1) ∧ w'.cell? ⟨w.heap.size + 1, 0, none⟩ = some (.slice a1_0 n1_0 c1_0) ∧ w'.cell? ⟨w4.heap.size, 0, none⟩ = some (.slice (some ⟨b4, 0, none⟩) n0_0 n0_0) ∧ w'.cell? ⟨w4.heap.size, 1, none⟩ = some (.slice (some ⟨b5, 0, none⟩) n0_1 n0_1) ∧ w'.cell? ⟨w6.heap.size, 0, none⟩ = some (.slice (some ⟨b15, 0, none⟩) n1_0 n1_0)) (first | exact ⟨Mk.drew1 _, k0_0, k0_1, k1_0, xx0_0, xx0_1, xx1_0⟩ | (obtain ⟨s0, s1, s2, s3, s4, s5, s6⟩ := ‹Mk0 wb9 _ ∧ _›; exact ⟨s0.trans mm, mm.cellAt s1, mm.cellAt s2, mm.cellAt s3, mm.cellAt s4, mm.cellAt s5, mm.cellAt s6⟩)) (first | (go_at_call 9; refine (toPathC _ _ _ _ w.heap.size _ (e29 _ (‹Mk0 wb9 _ ∧ _›).1) (M9.trans (‹Mk0 wb9 _ ∧ _›).1).size hN1_0).mono ?_; rintro e wa ⟨bb0, rfl, oo0, gg0, mm⟩) | (go_at_call 12; refine (eqPathC _ _ _ _ _ _ _ _ _ (e27 _ (‹Mk0 wb9 _ ∧ _›).1) (oo0.has.mono (Nat.le_refl _)) (e28 _ (‹Mk0 wb9 _ ∧ _›).1) (Nat.le_refl _) hN1_0).mono ?_; rintro e wb10 ⟨rfl, mm⟩))
    obtain ⟨m10, k0_0, k0_1, k1_0, xx0_0, xx0_1, xx1_0⟩ := ‹Mk0 wb9 _ ∧ _›
    clear e27 e28 e29 hN1_0
    refine ‹∀ (a : Act) (w : World), _ → _› _ _ ?_
    have M10 := M9.trans m10
    have z10 := m10.size
    replace h18 := h18.mk m10 (by omega) (.inr (Nat.le_refl _))
    go_wp2_with fail
    go_ret
    exact ⟨rfl, M10.below0⟩)

set_option maxRecDepth 100000 in
theorem lifted (os : Os) (started : os.Started) (H : Type) (enc : TypeId × Value → H) :
    ReturnsInHanded {} Tryz.checked os 4 .any (Rows.fnExactBidirectionalSpec.pre6 enc Tryz.prog Tryz.f4 Rows.fnExactBidirectionalRow.domain false) (Rows.fnExactBidirectionalSpec.post enc Tryz.prog Tryz.f4 false true false false) := by
  refine returnsInHanded_of_change (C := Tryz.checked) own started (by kernel_rfl) Tryz.func4
    (ChangeSpec.witness6 (enc := enc) (C := Tryz.checked) false ⟨#[], #[.agg #[.slice none 0 0, .slice none 0 0], .agg #[.slice none 0 0], .int .i64 0], []⟩ 8 (by kernel_rfl) (by kernel_rfl) (by kernel_rfl) (by kernel_rfl)) ?_
  intro W base args ds gs before hval0 hW hcnd _
  have hval : ∀ (j : Nat) t v, Tryz.f4.params[j]? = some t → args[j]? = some v → Value.okWide Tryz.prog W .any base t v := hval0
  have hW' := hW
  obtain ⟨p, q, hA0, hV, rfl, hfz, hnd⟩ := hW
  have hA : DataW.TrodAll enc Tryz.prog W 0 (fun _ => true) true Tryz.f4.params.toList args.toList ds p := hA0
  rw [Tryz.params4] at hA hval
  obtain ⟨v0, vs0, d0, ds0, p0, q0, hargs, rfl, rfl, h0, r0⟩ := trodAll_cons hA
  obtain ⟨v1, vs1, d1, ds1, p1, q1, rfl, rfl, rfl, h1, r1⟩ := trodAll_cons r0
  obtain ⟨v2, vs2, d2, ds2, p2, q2, rfl, rfl, rfl, h2, r2⟩ := trodAll_cons r1
  obtain ⟨rfl, rfl, rfl⟩ := trodAll_nil r2
  obtain rfl : args = #[v0, v1, v2] := by cases args; simp_all
  obtain ⟨rfl, rfl⟩ := trodVars_none hV
  have k0 := h0
  have lt0 : ∀ x ∈ p0, x.block < W.heap.size := by obtain ⟨m, hm⟩ := k0; exact DataW.trod_lt m _ _ _ hm
  obtain ⟨cs0, rfl, hcs0, hf0⟩ := open_agg Tryz.underlying25 (by kernel_rfl) (by kernel_rfl) (hval 0 25 v0 rfl rfl) h0
  obtain ⟨_, _, _, e0_0, q0_0⟩ := hf0 0 _ rfl
  obtain ⟨a0_0, n0_0, c0_0, z0_0, rfl, m0_0, h0_0, f0_0⟩ := openASS q0_0
  obtain ⟨_, _, _, e0_1, q0_1⟩ := hf0 1 _ rfl
  obtain ⟨a0_1, n0_1, c0_1, z0_1, rfl, m0_1, h0_1, f0_1⟩ := openLinkS q0_1
  obtain rfl : cs0 = #[.slice a0_0 n0_0 c0_0, .slice a0_1 n0_1 c0_1] := arr_of [.slice a0_0 n0_0 c0_0, .slice a0_1 n0_1 c0_1] hcs0 (fun j hj => by match j, hj with | 0, _ => exact e0_0 | 1, _ => exact e0_1)
  have k1 := h1
  have lt1 : ∀ x ∈ p1, x.block < W.heap.size := by obtain ⟨m, hm⟩ := k1; exact DataW.trod_lt m _ _ _ hm
  obtain ⟨cs1, rfl, hcs1, hf1⟩ := open_agg Tryz.underlying28 (by kernel_rfl) (by kernel_rfl) (hval 1 28 v1 rfl rfl) h1
  obtain ⟨_, _, _, e1_0, q1_0⟩ := hf1 0 _ rfl
  obtain ⟨a1_0, n1_0, c1_0, z1_0, rfl, m1_0, h1_0, f1_0⟩ := openPathPartS q1_0
  obtain rfl : cs1 = #[.slice a1_0 n1_0 c1_0] := arr_of [.slice a1_0 n1_0 c1_0] hcs1 (fun j hj => by match j, hj with | 0, _ => exact e1_0)
  obtain ⟨a2, rfl, rfl, rfl, w2⟩ := open_int Tryz.underlying3 (hval 2 3 v2 rfl rfl) h2
  clear hA0 hval0
  refine (walk a0_0 n0_0 c0_0 z0_0 a0_1 n0_1 c0_1 z0_1 a1_0 n1_0 c1_0 z1_0 a2 W h0_0 m0_0 f0_0 h0_1 m0_1 f0_1 h1_0 m1_0 f1_0 w2).mono fun e W' ⟨he, bel⟩ => ?_
  subst he
  exact ⟨_, rfl, _, _, _, [], _, [], hW', trodAll_mk1 (shut_bool Tryz.underlying4 _), (trodAll_cons_mk (Below.trod laidOut (by kernel_rfl) (of_decide_eq_true (by kernel_rfl)) k0 bel lt0) (trodAll_cons_mk (Below.trod laidOut (by kernel_rfl) (of_decide_eq_true (by kernel_rfl)) k1 bel lt1) (trodAll_cons_mk (shut_int Tryz.underlying3 w2) trodAll_mk0))), rfl, bel.frame _, fun h => by cases h⟩

theorem over : Rows.fnExactBidirectionalRow.holds Tryz.pinned (OpenSpec.ofChange Rows.fnExactBidirectionalSpec) :=
  OpenClaim.holds_of_wide 4 Tryz.f4 rfl rfl rfl rfl rfl rfl rfl ⟨rfl, rfl, rfl, rfl, rfl⟩ rfl rfl rfl rfl rfl (by kernel_rfl) Tryz.func4 (by kernel_rfl)
    (of_decide_eq_true (by kernel_rfl)) (by unfold Func.isWrapper; first | (rw [if_pos (by decide +kernel)]; kernel_rfl) | (rw [if_neg (by decide +kernel)]; exact ⟨rfl, rfl⟩))
    (fun os started H enc _ => lifted os started H enc)

theorem proved : Rows.FnExactBidirectionalSaid := over
#print axioms proved
end Go.Proofs.YtifhhfndoifbhaaGreat.fnExactBidirectional
