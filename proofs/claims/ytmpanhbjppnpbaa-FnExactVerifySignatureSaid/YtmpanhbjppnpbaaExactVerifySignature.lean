
/- For every topology, every signature and every list of integers, the law on VerifySignature returns true; no further condition. -/
import Derived.Test.YtmpanhbjppnpbaaRows
import Derived.WalkKit
import Derived.ProofKit
import Derived.OpenShut
import Derived.ShutString
import Derived.ChangeOld
import Derived.Below
import Derived.Test.YtmpanhbjppnpbaaStruct
import Derived.Test.YtmpanhbjppnpbaaOAS
import Derived.Test.YtmpanhbjppnpbaaZAS
import Derived.Test.YtmpanhbjppnpbaaOLink
import Derived.Test.YtmpanhbjppnpbaaZLink
import Derived.Test.YtmpanhbjppnpbaaStruct
import Derived.Deep.RegionHeld3
import Derived.Test.YtmpanhbjppnpbaaSignAs
import Derived.Test.YtmpanhbjppnpbaaIntR
namespace Go.Proofs.Ytmpanhbjppnpbaa.fnExactVerifySignature
open Go.ChangeShapes Go.WideShapes Go.ChangeAt Go.RowKit
open Go.ChangeMaps (open_string shut_string)
set_option linter.unusedVariables false

theorem own : ownKnob Try.prog.godebug = none := by kernel_rfl
theorem laidOut : laidOutB Try.prog = true := by kernel_rfl

set_option maxRecDepth 100000 in
set_option maxHeartbeats 4000000 in
theorem walk (a0_0 : Option Addr) (n0_0 c0_0 : Nat) (z0_0 : List TAS) (a0_1 : Option Addr) (n0_1 c0_1 : Nat) (z0_1 : List TLink) (a1_0 : Int) (a1_1 : Int) (a2_ : Option Addr) (n2_ c2_ : Nat) (z2_ : List Int) (w : World) (h0_0 : HasAS w w.heap.size a0_0 n0_0 z0_0) (m0_0 : n0_0 ≤ 9223372036854775807) (f0_0 : ∀ x ∈ z0_0, TAS.fits x) (h0_1 : HasLink w w.heap.size a0_1 n0_1 z0_1) (m0_1 : n0_1 ≤ 9223372036854775807) (f0_1 : ∀ x ∈ z0_1, TLink.fits x) (w1_0 : (Lit.int .i64 a1_0).wf = true) (w1_1 : (Lit.int .i64 a1_1).wf = true) (h2_ : HasInt w w.heap.size a2_ n2_ z2_) (m2_ : n2_ ≤ 9223372036854775807) (f2_ : ∀ z ∈ z2_, (Lit.int .i64 z).wf = true) :
    Calls Try.prog 5 #[.agg #[.slice a0_0 n0_0 c0_0, .slice a0_1 n0_1 c0_1], .agg #[.int .i64 a1_0, .int .i64 a1_1], .slice a2_ n2_ c2_] w fun e w' => e = .returned (.bool true) ∧ Below w.heap.size w w' := by
  by_cases hbig2 : 1048576 < n2_
  · have hb2 : (1048576 : Int) < (n2_ : Int) := by omega
    go_enter Try.func5, Try.ntmps5
    go_wp2_with fail
    have M0 : Mk0 w ((w.alloc (Obj.cells #[Value.slice a0_0 n0_0 c0_0, Value.slice a0_1 n0_1 c0_1] 25)).alloc (Obj.cells #[Value.int .i64 a1_0, Value.int .i64 a1_1] 51)) := ((Mk.alloc w _).new _)
    have k0_0 : ((w.alloc (Obj.cells #[Value.slice a0_0 n0_0 c0_0, Value.slice a0_1 n0_1 c0_1] 25)).alloc (Obj.cells #[Value.int .i64 a1_0, Value.int .i64 a1_1] 51)).cell? ⟨w.heap.size, 0, none⟩ = some (.slice a0_0 n0_0 c0_0) := by simp [go_sem]
    have k0_1 : ((w.alloc (Obj.cells #[Value.slice a0_0 n0_0 c0_0, Value.slice a0_1 n0_1 c0_1] 25)).alloc (Obj.cells #[Value.int .i64 a1_0, Value.int .i64 a1_1] 51)).cell? ⟨w.heap.size, 1, none⟩ = some (.slice a0_1 n0_1 c0_1) := by simp [go_sem]
    have k1_0 : ((w.alloc (Obj.cells #[Value.slice a0_0 n0_0 c0_0, Value.slice a0_1 n0_1 c0_1] 25)).alloc (Obj.cells #[Value.int .i64 a1_0, Value.int .i64 a1_1] 51)).cell? ⟨w.heap.size + 1, 0, none⟩ = some (.int .i64 a1_0) := by simp [go_sem]
    have k1_1 : ((w.alloc (Obj.cells #[Value.slice a0_0 n0_0 c0_0, Value.slice a0_1 n0_1 c0_1] 25)).alloc (Obj.cells #[Value.int .i64 a1_0, Value.int .i64 a1_1] 51)).cell? ⟨w.heap.size + 1, 1, none⟩ = some (.int .i64 a1_1) := by simp [go_sem]
    go_ret
    exact ⟨rfl, M0.below0⟩
  have hn2 : n2_ ≤ 1048576 := by omega
  have hp2 : (n2_ : Int) ≤ 1048576 := by omega
  clear hbig2
  by_cases hbig0 : (1048576 : Int) < (n0_0 : Int) + (n0_1 : Int)
  · go_enter Try.func5, Try.ntmps5
    go_wp2_with fail
    have M0 : Mk0 w ((w.alloc (Obj.cells #[Value.slice a0_0 n0_0 c0_0, Value.slice a0_1 n0_1 c0_1] 25)).alloc (Obj.cells #[Value.int .i64 a1_0, Value.int .i64 a1_1] 51)) := ((Mk.alloc w _).new _)
    have k0_0 : ((w.alloc (Obj.cells #[Value.slice a0_0 n0_0 c0_0, Value.slice a0_1 n0_1 c0_1] 25)).alloc (Obj.cells #[Value.int .i64 a1_0, Value.int .i64 a1_1] 51)).cell? ⟨w.heap.size, 0, none⟩ = some (.slice a0_0 n0_0 c0_0) := by simp [go_sem]
    have k0_1 : ((w.alloc (Obj.cells #[Value.slice a0_0 n0_0 c0_0, Value.slice a0_1 n0_1 c0_1] 25)).alloc (Obj.cells #[Value.int .i64 a1_0, Value.int .i64 a1_1] 51)).cell? ⟨w.heap.size, 1, none⟩ = some (.slice a0_1 n0_1 c0_1) := by simp [go_sem]
    have k1_0 : ((w.alloc (Obj.cells #[Value.slice a0_0 n0_0 c0_0, Value.slice a0_1 n0_1 c0_1] 25)).alloc (Obj.cells #[Value.int .i64 a1_0, Value.int .i64 a1_1] 51)).cell? ⟨w.heap.size + 1, 0, none⟩ = some (.int .i64 a1_0) := by simp [go_sem]
    have k1_1 : ((w.alloc (Obj.cells #[Value.slice a0_0 n0_0 c0_0, Value.slice a0_1 n0_1 c0_1] 25)).alloc (Obj.cells #[Value.int .i64 a1_0, Value.int .i64 a1_1] 51)).cell? ⟨w.heap.size + 1, 1, none⟩ = some (.int .i64 a1_1) := by simp [go_sem]
    refine (szTopologyB _ _ _ _ _ _ _ _ (by omega) (by omega) (by omega) m0_0 m0_1).mono ?_
    rintro e w1 ⟨rfl, m1⟩
    go_wp2_with fail
    go_ret
    exact ⟨rfl, (M0.trans m1).below0⟩
  have hn0 : (n0_0 : Int) + (n0_1 : Int) ≤ (1048576 : Int) := by omega
  clear hbig0
  go_enter Try.func5, Try.ntmps5
  go_wp2_with fail
  have M0 : Mk0 w ((w.alloc (Obj.cells #[Value.slice a0_0 n0_0 c0_0, Value.slice a0_1 n0_1 c0_1] 25)).alloc (Obj.cells #[Value.int .i64 a1_0, Value.int .i64 a1_1] 51)) := ((Mk.alloc w _).new _)
  have k0_0 : ((w.alloc (Obj.cells #[Value.slice a0_0 n0_0 c0_0, Value.slice a0_1 n0_1 c0_1] 25)).alloc (Obj.cells #[Value.int .i64 a1_0, Value.int .i64 a1_1] 51)).cell? ⟨w.heap.size, 0, none⟩ = some (.slice a0_0 n0_0 c0_0) := by simp [go_sem]
  have k0_1 : ((w.alloc (Obj.cells #[Value.slice a0_0 n0_0 c0_0, Value.slice a0_1 n0_1 c0_1] 25)).alloc (Obj.cells #[Value.int .i64 a1_0, Value.int .i64 a1_1] 51)).cell? ⟨w.heap.size, 1, none⟩ = some (.slice a0_1 n0_1 c0_1) := by simp [go_sem]
  have k1_0 : ((w.alloc (Obj.cells #[Value.slice a0_0 n0_0 c0_0, Value.slice a0_1 n0_1 c0_1] 25)).alloc (Obj.cells #[Value.int .i64 a1_0, Value.int .i64 a1_1] 51)).cell? ⟨w.heap.size + 1, 0, none⟩ = some (.int .i64 a1_0) := by simp [go_sem]
  have k1_1 : ((w.alloc (Obj.cells #[Value.slice a0_0 n0_0 c0_0, Value.slice a0_1 n0_1 c0_1] 25)).alloc (Obj.cells #[Value.int .i64 a1_0, Value.int .i64 a1_1] 51)).cell? ⟨w.heap.size + 1, 1, none⟩ = some (.int .i64 a1_1) := by simp [go_sem]
  refine (szTopologyC _ _ _ _ _ _ _ _ (by omega) (by omega) (by omega)).mono ?_
  rintro e w1 ⟨l1, hl1, rfl, m1⟩
  have M1 := M0.trans m1
  replace k0_0 := m1.cellAt k0_0
  replace k0_1 := m1.cellAt k0_1
  replace k1_0 := m1.cellAt k1_0
  replace k1_1 := m1.cellAt k1_1
  have z1 := m1.size
  simp only [World.size_alloc] at z1
  go_wp2_with fail
  have e1 : ∀ w', Mk0 w1 w' → HasAS w' w.heap.size a0_0 n0_0 z0_0 := fun w' m => h0_0.mk (M1.trans m) (Nat.le_refl _) (.inr (Nat.le_refl _))
  have e2 : ∀ w', Mk0 w1 w' → HasLink w' w.heap.size a0_1 n0_1 z0_1 := fun w' m => h0_1.mk (M1.trans m) (Nat.le_refl _) (.inr (Nat.le_refl _))
  have hN0_0 : n0_0 ≤ 1048576 := by omega
  have hN0_1 : n0_1 ≤ 1048576 := by omega
  have e3 : ∀ w', Mk0 w1 w' → HasInt w' w.heap.size a2_ n2_ z2_ := fun w' m => h2_.mk (M1.trans m) (Nat.le_refl _) (.inr (Nat.le_refl _))
  have hN2_ : n2_ ≤ 1048576 := by omega
  go_region_held3 (fun w' => Mk0 w1 w' ∧ w'.cell? ⟨w.heap.size, 0, none⟩ = some (.slice a0_0 n0_0 c0_0) ∧ w'.cell? ⟨w.heap.size, 1, none⟩ = some (.slice a0_1 n0_1 c0_1) ∧ w'.cell? ⟨w.heap.size + 1, 0, none⟩ = some (.int .i64 a1_0) ∧ w'.cell? ⟨w.heap.size + 1, 1, none⟩ = some (.int .i64 a1_1)) (first | exact ⟨Mk.drew1 _, k0_0, k0_1, k1_0, k1_1⟩ | (obtain ⟨s0, s1, s2, s3, s4⟩ := ‹Mk0 w1 _ ∧ _›; exact ⟨s0.trans mm, mm.cellAt s1, mm.cellAt s2, mm.cellAt s3, mm.cellAt s4⟩)) (first | (go_at_call 11; with_reducible refine (toTopologyC a0_0 n0_0 c0_0 z0_0 a0_1 n0_1 c0_1 z0_1 w.heap.size _ (e1 _ (‹Mk0 w1 _ ∧ _›).1) (e2 _ (‹Mk0 w1 _ ∧ _›).1) (M1.trans (‹Mk0 w1 _ ∧ _›).1).size hN0_0 hN0_1).mono ?_; rintro e wc0 ⟨bc0_0, bc0_1, dc0_0, rfl, oc0_0, oc0_1, gc0_0, gc0_1, mc0⟩; have mm := mc0) | (go_at_call 20; with_reducible refine (toSignatureI a1_0 a1_1 _).mono ?_; rintro e wf1 ⟨rfl, mf1⟩; have mm := mf1) | (go_at_call 21; with_reducible refine (toIntS a2_ n2_ c2_ w.heap.size z2_ _ (e3 _ (‹Mk0 w1 _ ∧ _›).1) (M1.trans (‹Mk0 w1 _ ∧ _›).1).size hN2_).mono ?_; rintro e wc2 ⟨bc2_0, rfl, oc2_0, mc2⟩; have mm := mc2) | (go_at_call 19; refine (specVerS _ _ _ _ _ _ _ z0_0 ⟨a1_0, a1_1⟩ _ _ _ _ z2_ _ (by first | exact (oc0_0.has.mono gc0_1) | exact (oc0_0.has.mono gc0_1).mk mf1 (Nat.le_refl _) (.inr (Nat.le_refl _)) | exact (oc0_0.has.mono gc0_1).mk mc2 (Nat.le_refl _) (.inr (Nat.le_refl _)) | exact ((oc0_0.has.mono gc0_1).mk mf1 (Nat.le_refl _) (.inr (Nat.le_refl _))).mk mc2 mf1.size (.inr (Nat.le_refl _)) | exact ((oc0_0.has.mono gc0_1).mk mc2 (Nat.le_refl _) (.inr (Nat.le_refl _))).mk mf1 mc2.size (.inr (Nat.le_refl _))) (by first | exact Nat.le_refl _ | exact mf1.size | exact mc2.size | exact Nat.le_trans mf1.size mc2.size | exact Nat.le_trans mc2.size mf1.size) hN0_0 f0_0 (hasR_int.1 (by first | exact (oc2_0.has.mono (Nat.le_refl _)) | exact (oc2_0.has.mono (Nat.le_refl _)).mk mc0 (Nat.le_refl _) (.inr (Nat.le_refl _)) | exact (oc2_0.has.mono (Nat.le_refl _)).mk mf1 (Nat.le_refl _) (.inr (Nat.le_refl _)) | exact ((oc2_0.has.mono (Nat.le_refl _)).mk mc0 (Nat.le_refl _) (.inr (Nat.le_refl _))).mk mf1 mc0.size (.inr (Nat.le_refl _)) | exact ((oc2_0.has.mono (Nat.le_refl _)).mk mf1 (Nat.le_refl _) (.inr (Nat.le_refl _))).mk mc0 mf1.size (.inr (Nat.le_refl _)))) (by first | exact Nat.le_refl _ | exact mc0.size | exact mf1.size | exact Nat.le_trans mc0.size mf1.size | exact Nat.le_trans mf1.size mc0.size) hN2_ (fun h => by cases h) f2_).mono ?_; rintro e wz2 ⟨rfl, mm⟩))
  all_goals (
    obtain ⟨m2, k0_0, k0_1, k1_0, k1_1⟩ := ‹Mk0 w1 _ ∧ _›
    refine ‹∀ (a : Act) (w : World), _ → _› _ _ ?_
    clear e1 e2 hN0_0 hN0_1 e3 hN2_
    have M2 := M1.trans m2
    have z2 := m2.size
    go_wp2_with fail
    refine (toTopologyC _ _ _ _ _ _ _ _ w.heap.size _ (h0_0.mk M2 (Nat.le_refl _) (.inr (Nat.le_refl _))) (h0_1.mk M2 (Nat.le_refl _) (.inr (Nat.le_refl _))) (by omega) (by omega) (by omega)).mono ?_
    rintro e w3 ⟨b4, b5, d6, rfl, o7, o8, g9, g10, m3⟩
    have M3 := M2.trans m3
    have z3 := m3.size
    replace k0_0 := m3.cellAt k0_0
    replace k0_1 := m3.cellAt k0_1
    replace k1_0 := m3.cellAt k1_0
    replace k1_1 := m3.cellAt k1_1
    have h11 := o7.has.mono (B' := w3.heap.size) (by omega)
    clear o7
    have h12 := o8.has.mono (B' := w3.heap.size) (by omega)
    clear o8
    have yb13 : w.heap.size < w3.heap.size := by omega
    have yb14 : w.heap.size + 1 < w3.heap.size := by omega
    go_wp2_with fail
    have xx0_0 : (w3.alloc (Obj.cells #[Value.slice (some ⟨b4, 0, none⟩) n0_0 n0_0, Value.slice (some ⟨b5, 0, none⟩) n0_1 n0_1] 35)).cell? ⟨w3.heap.size, 0, none⟩ = some (.slice (some ⟨b4, 0, none⟩) n0_0 n0_0) := by rw [World.cell?_alloc_at _ _ _ _ rfl]; rfl
    have xx0_1 : (w3.alloc (Obj.cells #[Value.slice (some ⟨b4, 0, none⟩) n0_0 n0_0, Value.slice (some ⟨b5, 0, none⟩) n0_1 n0_1] 35)).cell? ⟨w3.heap.size, 1, none⟩ = some (.slice (some ⟨b5, 0, none⟩) n0_1 n0_1) := by rw [World.cell?_alloc_at _ _ _ _ rfl]; rfl
    have m4 := Mk.alloc w3 (Obj.cells #[Value.slice (some ⟨b4, 0, none⟩) n0_0 n0_0, Value.slice (some ⟨b5, 0, none⟩) n0_1 n0_1] 35)
    replace k0_0 := m4.cellAt k0_0
    replace k0_1 := m4.cellAt k0_1
    replace k1_0 := m4.cellAt k1_0
    replace k1_1 := m4.cellAt k1_1
    replace h11 := h11.mk m4 (by omega) (.inr (Nat.le_refl _))
    replace h12 := h12.mk m4 (by omega) (.inr (Nat.le_refl _))
    have M4 := M3.trans m4
    have z4 := m4.size
    have zz4 : w3.heap.size < (w3.alloc (Obj.cells #[Value.slice (some ⟨b4, 0, none⟩) n0_0 n0_0, Value.slice (some ⟨b5, 0, none⟩) n0_1 n0_1] 35)).heap.size := by rw [World.size_alloc]; omega
    generalize (w3.alloc (Obj.cells #[Value.slice (some ⟨b4, 0, none⟩) n0_0 n0_0, Value.slice (some ⟨b5, 0, none⟩) n0_1 n0_1] 35)) = w4 at *
    refine (toIntS _ _ _ w.heap.size _ _ (h2_.mk M4 (Nat.le_refl _) (.inr (Nat.le_refl _))) (by omega) (by omega)).mono ?_
    rintro e w5 ⟨b15, rfl, o16, m5⟩
    have M5 := M4.trans m5
    have z5 := m5.size
    replace k0_0 := m5.cellAt k0_0
    replace k0_1 := m5.cellAt k0_1
    replace k1_0 := m5.cellAt k1_0
    replace k1_1 := m5.cellAt k1_1
    replace xx0_0 := m5.cellAt xx0_0
    replace xx0_1 := m5.cellAt xx0_1
    replace h11 := h11.mk m5 (by omega) (.inr (Nat.le_refl _))
    replace h12 := h12.mk m5 (by omega) (.inr (Nat.le_refl _))
    have h17 := o16.has.mono (B' := w5.heap.size) (by omega)
    clear o16
    go_wp2_with fail
    have e18 : ∀ w', Mk0 w5 w' → HasAS w' w3.heap.size (some ⟨b4, 0, none⟩) n0_0 z0_0 := fun w' m => h11.mk m (by omega) (.inr (Nat.le_refl _))
    have e19 : ∀ w', Mk0 w5 w' → HasLink w' w3.heap.size (some ⟨b5, 0, none⟩) n0_1 z0_1 := fun w' m => h12.mk m (by omega) (.inr (Nat.le_refl _))
    have e20 : ∀ w', Mk0 w5 w' → w3.heap.size ≤ w'.heap.size := fun w' m => Nat.le_trans (by omega) m.size
    have e21 : ∀ w', Mk0 w5 w' → HasInt w' w5.heap.size (some ⟨b15, 0, none⟩) n2_ z2_ := fun w' m => h17.mk m (by omega) (.inr (Nat.le_refl _))
    have e22 : ∀ w', Mk0 w5 w' → w5.heap.size ≤ w'.heap.size := fun w' m => Nat.le_trans (by omega) m.size
    have hN0_0 : n0_0 ≤ 1048576 := by omega
    have hN0_1 : n0_1 ≤ 1048576 := by omega
    go_region_held3 (fun w' => Mk0 w5 w' ∧ w'.cell? ⟨w.heap.size, 0, none⟩ = some (.slice a0_0 n0_0 c0_0) ∧ w'.cell? ⟨w.heap.size, 1, none⟩ = some (.slice a0_1 n0_1 c0_1) ∧ w'.cell? ⟨w.heap.size + 1, 0, none⟩ = some (.int .i64 a1_0) ∧ w'.cell? ⟨w.heap.size + 1, 1, none⟩ = some (.int .i64 a1_1) ∧ w'.cell? ⟨w3.heap.size, 0, none⟩ = some (.slice (some ⟨b4, 0, none⟩) n0_0 n0_0) ∧ w'.cell? ⟨w3.heap.size, 1, none⟩ = some (.slice (some ⟨b5, 0, none⟩) n0_1 n0_1)) (first | exact ⟨Mk.drew1 _, k0_0, k0_1, k1_0, k1_1, xx0_0, xx0_1⟩ | (obtain ⟨s0, s1, s2, s3, s4, s5, s6⟩ := ‹Mk0 w5 _ ∧ _›; exact ⟨s0.trans mm, mm.cellAt s1, mm.cellAt s2, mm.cellAt s3, mm.cellAt s4, mm.cellAt s5, mm.cellAt s6⟩)) (first | (go_at_call 20; with_reducible refine (toSignatureI a1_0 a1_1 _).mono ?_; rintro e wf1 ⟨rfl, mf1⟩; have mm := mf1) | (go_at_call 22; refine (implVerS _ _ _ _ _ _ _ z0_0 ⟨a1_0, a1_1⟩ _ _ _ _ z2_ _ (e18 _ (‹Mk0 w5 _ ∧ _›).1) (e20 _ (‹Mk0 w5 _ ∧ _›).1) hN0_0 f0_0 (hasR_int.1 (e21 _ (‹Mk0 w5 _ ∧ _›).1)) (e22 _ (‹Mk0 w5 _ ∧ _›).1) (by omega) (fun h => by cases h) f2_).mono ?_; rintro e wz6 ⟨rfl, mm⟩))
    obtain ⟨m6, k0_0, k0_1, k1_0, k1_1, xx0_0, xx0_1⟩ := ‹Mk0 w5 _ ∧ _›
    refine ‹∀ (a : Act) (w : World), _ → _› _ _ ?_
    clear e18 e19 e20 e21 e22 hN0_0 hN0_1
    have M6 := M5.trans m6
    have z6 := m6.size
    replace h11 := h11.mk m6 (by omega) (.inr (Nat.le_refl _))
    replace h12 := h12.mk m6 (by omega) (.inr (Nat.le_refl _))
    replace h17 := h17.mk m6 (by omega) (.inr (Nat.le_refl _))
    go_wp2_with fail
    have e23 : ∀ w', Mk0 wz6 w' → HasAS w' w3.heap.size (some ⟨b4, 0, none⟩) n0_0 z0_0 := fun w' m => h11.mk m (by omega) (.inr (Nat.le_refl _))
    have e24 : ∀ w', Mk0 wz6 w' → HasLink w' w3.heap.size (some ⟨b5, 0, none⟩) n0_1 z0_1 := fun w' m => h12.mk m (by omega) (.inr (Nat.le_refl _))
    have e25 : ∀ w', Mk0 wz6 w' → w3.heap.size ≤ w'.heap.size := fun w' m => Nat.le_trans (by omega) m.size
    have e26 : ∀ w', Mk0 wz6 w' → HasAS w' w.heap.size a0_0 n0_0 z0_0 := fun w' m => h0_0.mk (M6.trans m) (Nat.le_refl _) (.inr (Nat.le_refl _))
    have e27 : ∀ w', Mk0 wz6 w' → HasLink w' w.heap.size a0_1 n0_1 z0_1 := fun w' m => h0_1.mk (M6.trans m) (Nat.le_refl _) (.inr (Nat.le_refl _))
    have hN0_0 : n0_0 ≤ 1048576 := by omega
    have hN0_1 : n0_1 ≤ 1048576 := by omega
    go_region_held3 (fun w' => Mk0 wz6 w' ∧ w'.cell? ⟨w.heap.size, 0, none⟩ = some (.slice a0_0 n0_0 c0_0) ∧ w'.cell? ⟨w.heap.size, 1, none⟩ = some (.slice a0_1 n0_1 c0_1) ∧ w'.cell? ⟨w.heap.size + 1, 0, none⟩ = some (.int .i64 a1_0) ∧ w'.cell? ⟨w.heap.size + 1, 1, none⟩ = some (.int .i64 a1_1) ∧ w'.cell? ⟨w3.heap.size, 0, none⟩ = some (.slice (some ⟨b4, 0, none⟩) n0_0 n0_0) ∧ w'.cell? ⟨w3.heap.size, 1, none⟩ = some (.slice (some ⟨b5, 0, none⟩) n0_1 n0_1)) (first | exact ⟨Mk.drew1 _, k0_0, k0_1, k1_0, k1_1, xx0_0, xx0_1⟩ | (obtain ⟨s0, s1, s2, s3, s4, s5, s6⟩ := ‹Mk0 wz6 _ ∧ _›; exact ⟨s0.trans mm, mm.cellAt s1, mm.cellAt s2, mm.cellAt s3, mm.cellAt s4, mm.cellAt s5, mm.cellAt s6⟩)) (first | (go_at_call 11; refine (toTopologyC _ _ _ _ _ _ _ _ w.heap.size _ (e26 _ (‹Mk0 wz6 _ ∧ _›).1) (e27 _ (‹Mk0 wz6 _ ∧ _›).1) (M6.trans (‹Mk0 wz6 _ ∧ _›).1).size hN0_0 hN0_1).mono ?_; rintro e wa ⟨bb0, bb1, dd0, rfl, oo0, oo1, gg0, gg1, mm⟩) | (go_at_call 14; refine (eqTopologyC _ _ _ _ _ _ _ _ _ _ _ _ _ _ _ (e23 _ (‹Mk0 wz6 _ ∧ _›).1) (e24 _ (‹Mk0 wz6 _ ∧ _›).1) (oo0.has.mono gg1) (oo1.has.mono (Nat.le_refl _)) (e25 _ (‹Mk0 wz6 _ ∧ _›).1) (Nat.le_refl _) hN0_0 hN0_1).mono ?_; rintro e wb7 ⟨rfl, mm⟩))
    obtain ⟨m7, k0_0, k0_1, k1_0, k1_1, xx0_0, xx0_1⟩ := ‹Mk0 wz6 _ ∧ _›
    clear e23 e24 e25 e26 e27 hN0_0 hN0_1
    refine ‹∀ (a : Act) (w : World), _ → _› _ _ ?_
    have M7 := M6.trans m7
    have z7 := m7.size
    replace h11 := h11.mk m7 (by omega) (.inr (Nat.le_refl _))
    replace h12 := h12.mk m7 (by omega) (.inr (Nat.le_refl _))
    replace h17 := h17.mk m7 (by omega) (.inr (Nat.le_refl _))
    go_wp2_with fail
    refine (toIntS _ _ _ w.heap.size _ _ (h2_.mk M7 (Nat.le_refl _) (.inr (Nat.le_refl _))) (by omega) (by omega)).mono ?_
    rintro e w8 ⟨b28, rfl, o29, m8⟩
    have M8 := M7.trans m8
    have z8 := m8.size
    replace k0_0 := m8.cellAt k0_0
    replace k0_1 := m8.cellAt k0_1
    replace k1_0 := m8.cellAt k1_0
    replace k1_1 := m8.cellAt k1_1
    replace xx0_0 := m8.cellAt xx0_0
    replace xx0_1 := m8.cellAt xx0_1
    replace h17 := h17.mk m8 (by omega) (.inr (Nat.le_refl _))
    have h30 := o29.has.mono (B' := w8.heap.size) (by omega)
    clear o29
    go_wp2_with fail
    refine (eqIntS _ _ _ _ _ _ _ _ _ h17 h30 (by omega) (by omega) (by omega)).mono ?_
    rintro e w9 ⟨rfl, m9⟩
    have M9 := M8.trans m9
    have z9 := m9.size
    replace k0_0 := m9.cellAt k0_0
    replace k0_1 := m9.cellAt k0_1
    replace k1_0 := m9.cellAt k1_0
    replace k1_1 := m9.cellAt k1_1
    replace xx0_0 := m9.cellAt xx0_0
    replace xx0_1 := m9.cellAt xx0_1
    replace h17 := h17.mk m9 (by omega) (.inr (Nat.le_refl _))
    replace h30 := h30.mk m9 (by omega) (.inr (Nat.le_refl _))
    go_wp2_with fail
    go_ret
    exact ⟨rfl, M9.below0⟩)

set_option maxRecDepth 100000 in
theorem lifted (os : Os) (started : os.Started) (H : Type) (enc : TypeId × Value → H) :
    ReturnsInHanded {} Try.checked os 5 .any (Rows.fnExactVerifySignatureSpec.pre6 enc Try.prog Try.f5 Rows.fnExactVerifySignatureRow.domain false) (Rows.fnExactVerifySignatureSpec.post enc Try.prog Try.f5 false true false false) := by
  refine returnsInHanded_of_change (C := Try.checked) own started (by kernel_rfl) Try.func5
    (ChangeSpec.witness6 (enc := enc) (C := Try.checked) false ⟨#[], #[.agg #[.slice none 0 0, .slice none 0 0], .agg #[.int .i64 0, .int .i64 0], .slice none 0 0], []⟩ 8 (by kernel_rfl) (by kernel_rfl) (by kernel_rfl) (by kernel_rfl)) ?_
  intro W base args ds gs before hval0 hW hcnd _
  have hval : ∀ (j : Nat) t v, Try.f5.params[j]? = some t → args[j]? = some v → Value.okWide Try.prog W .any base t v := hval0
  have hW' := hW
  obtain ⟨p, q, hA0, hV, rfl, hfz, hnd⟩ := hW
  have hA : DataW.TrodAll enc Try.prog W 0 (fun _ => true) true Try.f5.params.toList args.toList ds p := hA0
  rw [Try.params5] at hA hval
  obtain ⟨v0, vs0, d0, ds0, p0, q0, hargs, rfl, rfl, h0, r0⟩ := trodAll_cons hA
  obtain ⟨v1, vs1, d1, ds1, p1, q1, rfl, rfl, rfl, h1, r1⟩ := trodAll_cons r0
  obtain ⟨v2, vs2, d2, ds2, p2, q2, rfl, rfl, rfl, h2, r2⟩ := trodAll_cons r1
  obtain ⟨rfl, rfl, rfl⟩ := trodAll_nil r2
  obtain rfl : args = #[v0, v1, v2] := by cases args; simp_all
  obtain ⟨rfl, rfl⟩ := trodVars_none hV
  have k0 := h0
  have lt0 : ∀ x ∈ p0, x.block < W.heap.size := by obtain ⟨m, hm⟩ := k0; exact DataW.trod_lt m _ _ _ hm
  obtain ⟨cs0, rfl, hcs0, hf0⟩ := open_agg Try.underlying25 (by kernel_rfl) (by kernel_rfl) (hval 0 25 v0 rfl rfl) h0
  obtain ⟨_, _, _, e0_0, q0_0⟩ := hf0 0 _ rfl
  obtain ⟨a0_0, n0_0, c0_0, z0_0, rfl, m0_0, h0_0, f0_0⟩ := openASS q0_0
  obtain ⟨_, _, _, e0_1, q0_1⟩ := hf0 1 _ rfl
  obtain ⟨a0_1, n0_1, c0_1, z0_1, rfl, m0_1, h0_1, f0_1⟩ := openLinkS q0_1
  obtain rfl : cs0 = #[.slice a0_0 n0_0 c0_0, .slice a0_1 n0_1 c0_1] := arr_of [.slice a0_0 n0_0 c0_0, .slice a0_1 n0_1 c0_1] hcs0 (fun j hj => by match j, hj with | 0, _ => exact e0_0 | 1, _ => exact e0_1)
  have k1 := h1
  have lt1 : ∀ x ∈ p1, x.block < W.heap.size := by obtain ⟨m, hm⟩ := k1; exact DataW.trod_lt m _ _ _ hm
  obtain ⟨cs1, rfl, hcs1, hf1⟩ := open_flat Try.underlying51 (by kernel_rfl) (by kernel_rfl) (hval 1 51 v1 rfl rfl) h1
  obtain ⟨_, e1_0, qi, _⟩ := hf1 0 _ rfl; obtain ⟨a1_0, rfl, w1_0⟩ := qi Try.underlying3
  obtain ⟨_, e1_1, qi, _⟩ := hf1 1 _ rfl; obtain ⟨a1_1, rfl, w1_1⟩ := qi Try.underlying3
  obtain rfl : cs1 = #[.int .i64 a1_0, .int .i64 a1_1] := arr_of [.int .i64 a1_0, .int .i64 a1_1] hcs1 (fun j hj => by match j, hj with | 0, _ => exact e1_0 | 1, _ => exact e1_1)
  obtain ⟨a2, len2, cap2, rfl⟩ := okWide_slice Try.underlying52 (hval 2 52 v2 rfl rfl)
  have k2 := h2
  have lt2 : ∀ x ∈ p2, x.block < W.heap.size := by obtain ⟨m, hm⟩ := k2; exact DataW.trod_lt m _ _ _ hm
  obtain ⟨z2, w2⟩ : ∃ zs, IsRow .i64 W a2 len2 cap2 zs := by
    obtain ⟨fuel, hf⟩ := h2
    rcases open_ints Try.underlying52 Try.underlying3 (by kernel_rfl) hf with ⟨hcs, _⟩ | ⟨x, l, c, zs, hcs, _, hl, hm, hz, _, hcell, hwz⟩
    · simp [Value.cells] at hcs
      obtain ⟨rfl, rfl, rfl⟩ := hcs
      exact ⟨[], .inl ⟨rfl, rfl, rfl, rfl⟩⟩
    · simp [Value.cells] at hcs
      obtain ⟨rfl, rfl, rfl⟩ := hcs
      exact ⟨zs, .inr ⟨_, rfl, hl, hm, by simpa using hz, hcell, hwz⟩⟩
  clear hA0 hval0
  refine (walk a0_0 n0_0 c0_0 z0_0 a0_1 n0_1 c0_1 z0_1 a1_0 a1_1 a2 len2 cap2 (z2.take len2) W h0_0 m0_0 f0_0 h0_1 m0_1 f0_1 w1_0 w1_1 (hasR_int.2 w2.has) (isrow_len w2) w2.fits).mono fun e W' ⟨he, bel⟩ => ?_
  subst he
  exact ⟨_, rfl, _, _, _, [], _, [], hW', trodAll_mk1 (shut_bool Try.underlying4 _), (trodAll_cons_mk (Below.trod laidOut (by kernel_rfl) (of_decide_eq_true (by kernel_rfl)) k0 bel lt0) (trodAll_cons_mk (Below.trod laidOut (by kernel_rfl) (of_decide_eq_true (by kernel_rfl)) k1 bel lt1) (trodAll_cons_mk (Below.trod laidOut (by kernel_rfl) (of_decide_eq_true (by kernel_rfl)) k2 bel lt2) trodAll_mk0))), rfl, bel.frame _, fun h => by cases h⟩

theorem over : Rows.fnExactVerifySignatureRow.holds Try.pinned (OpenSpec.ofChange Rows.fnExactVerifySignatureSpec) :=
  OpenClaim.holds_of_wide 5 Try.f5 rfl rfl rfl rfl rfl rfl rfl ⟨rfl, rfl, rfl, rfl, rfl⟩ rfl rfl rfl rfl rfl (by kernel_rfl) Try.func5 (by kernel_rfl)
    (of_decide_eq_true (by kernel_rfl)) (by unfold Func.isWrapper; first | (rw [if_pos (by decide +kernel)]; kernel_rfl) | (rw [if_neg (by decide +kernel)]; exact ⟨rfl, rfl⟩))
    (fun os started H enc _ => lifted os started H enc)

theorem proved : Rows.FnExactVerifySignatureSaid := over
#print axioms proved
end Go.Proofs.Ytmpanhbjppnpbaa.fnExactVerifySignature
