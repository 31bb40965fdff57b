
/- For every two paths, the law on BetterPath returns true; no further condition. -/
import Derived.Test.YtiphndgmgpiodaaRows
import Derived.WalkKit
import Derived.ProofKit
import Derived.OpenShut
import Derived.ShutString
import Derived.ChangeOld
import Derived.Below
import Derived.Test.YtiphndgmgpiodaaOPathPart
import Derived.Test.YtiphndgmgpiodaaStruct
import Derived.Deep.RegionHeld3
import Derived.Test.YtiphndgmgpiodaaBetter
import Derived.Test.YtiphndgmgpiodaaCPath
namespace Go.Proofs.Ytiphndgmgpiodaa.fnExactBetterPath
open Go.ChangeShapes Go.WideShapes Go.ChangeAt Go.RowKit
open Go.ChangeMaps (open_string shut_string)
set_option linter.unusedVariables false

theorem own : ownKnob Try.prog.godebug = none := by kernel_rfl
theorem laidOut : laidOutB Try.prog = true := by kernel_rfl

set_option maxRecDepth 100000 in
set_option maxHeartbeats 4000000 in
theorem walk (a0_0 : Option Addr) (n0_0 c0_0 : Nat) (z0_0 : List TPathPart) (a1_0 : Option Addr) (n1_0 c1_0 : Nat) (z1_0 : List TPathPart) (w : World) (h0_0 : HasPathPart w w.heap.size a0_0 n0_0 z0_0) (m0_0 : n0_0 ≤ 9223372036854775807) (f0_0 : ∀ x ∈ z0_0, TPathPart.fits x) (h1_0 : HasPathPart w w.heap.size a1_0 n1_0 z1_0) (m1_0 : n1_0 ≤ 9223372036854775807) (f1_0 : ∀ x ∈ z1_0, TPathPart.fits x) :
    Calls Try.prog 8 #[.agg #[.slice a0_0 n0_0 c0_0], .agg #[.slice a1_0 n1_0 c1_0]] w fun e w' => e = .returned (.bool true) ∧ Below w.heap.size w w' := by
  by_cases hbig0 : (1048576 : Int) < ((szPathPart z0_0 n0_0 : Nat) : Int)
  · go_enter Try.func8, Try.ntmps8
    go_wp2_with fail
    have M0 : Mk0 w ((w.alloc (Obj.cells #[Value.slice a0_0 n0_0 c0_0] 70)).alloc (Obj.cells #[Value.slice a1_0 n1_0 c1_0] 70)) := ((Mk.alloc w _).new _)
    have k0_0 : ((w.alloc (Obj.cells #[Value.slice a0_0 n0_0 c0_0] 70)).alloc (Obj.cells #[Value.slice a1_0 n1_0 c1_0] 70)).cell? ⟨w.heap.size, 0, none⟩ = some (.slice a0_0 n0_0 c0_0) := by simp [go_sem]
    have k1_0 : ((w.alloc (Obj.cells #[Value.slice a0_0 n0_0 c0_0] 70)).alloc (Obj.cells #[Value.slice a1_0 n1_0 c1_0] 70)).cell? ⟨w.heap.size + 1, 0, none⟩ = some (.slice a1_0 n1_0 c1_0) := by simp [go_sem]
    refine (szPathB _ _ _ z0_0 w.heap.size _ _ (h0_0.mk M0 (Nat.le_refl _) (.inr (Nat.le_refl _))) M0.size (by omega) (by omega) (by omega) m0_0).mono ?_
    rintro e w1 ⟨rfl, m1⟩
    go_wp2_with fail
    go_ret
    exact ⟨rfl, (M0.trans m1).below0⟩
  have hn0 : ((szPathPart z0_0 n0_0 : Nat) : Int) ≤ (1048576 : Int) := by omega
  clear hbig0
  by_cases hbig1 : (1048576 - ((szPathPart z0_0 n0_0 : Nat) : Int) : Int) < ((szPathPart z1_0 n1_0 : Nat) : Int)
  · go_enter Try.func8, Try.ntmps8
    go_wp2_with fail
    have M0 : Mk0 w ((w.alloc (Obj.cells #[Value.slice a0_0 n0_0 c0_0] 70)).alloc (Obj.cells #[Value.slice a1_0 n1_0 c1_0] 70)) := ((Mk.alloc w _).new _)
    have k0_0 : ((w.alloc (Obj.cells #[Value.slice a0_0 n0_0 c0_0] 70)).alloc (Obj.cells #[Value.slice a1_0 n1_0 c1_0] 70)).cell? ⟨w.heap.size, 0, none⟩ = some (.slice a0_0 n0_0 c0_0) := by simp [go_sem]
    have k1_0 : ((w.alloc (Obj.cells #[Value.slice a0_0 n0_0 c0_0] 70)).alloc (Obj.cells #[Value.slice a1_0 n1_0 c1_0] 70)).cell? ⟨w.heap.size + 1, 0, none⟩ = some (.slice a1_0 n1_0 c1_0) := by simp [go_sem]
    refine (szPathC _ _ _ z0_0 w.heap.size _ _ (h0_0.mk M0 (Nat.le_refl _) (.inr (Nat.le_refl _))) M0.size (by omega) (by omega) (by omega)).mono ?_
    rintro e w1 ⟨l1, hl1, rfl, m1⟩
    have M1 := M0.trans m1
    replace k0_0 := m1.cellAt k0_0
    replace k1_0 := m1.cellAt k1_0
    have z1 := m1.size
    simp only [World.size_alloc] at z1
    go_wp2_with fail
    refine (szPathB _ _ _ z1_0 w.heap.size _ _ (h1_0.mk M1 (Nat.le_refl _) (.inr (Nat.le_refl _))) M1.size (by omega) (by omega) (by omega) m1_0).mono ?_
    rintro e w2 ⟨rfl, m2⟩
    go_wp2_with fail
    go_ret
    exact ⟨rfl, (M1.trans m2).below0⟩
  have hn1 : ((szPathPart z1_0 n1_0 : Nat) : Int) ≤ (1048576 - ((szPathPart z0_0 n0_0 : Nat) : Int) : Int) := by omega
  clear hbig1
  go_enter Try.func8, Try.ntmps8
  go_wp2_with fail
  have M0 : Mk0 w ((w.alloc (Obj.cells #[Value.slice a0_0 n0_0 c0_0] 70)).alloc (Obj.cells #[Value.slice a1_0 n1_0 c1_0] 70)) := ((Mk.alloc w _).new _)
  have k0_0 : ((w.alloc (Obj.cells #[Value.slice a0_0 n0_0 c0_0] 70)).alloc (Obj.cells #[Value.slice a1_0 n1_0 c1_0] 70)).cell? ⟨w.heap.size, 0, none⟩ = some (.slice a0_0 n0_0 c0_0) := by simp [go_sem]
  have k1_0 : ((w.alloc (Obj.cells #[Value.slice a0_0 n0_0 c0_0] 70)).alloc (Obj.cells #[Value.slice a1_0 n1_0 c1_0] 70)).cell? ⟨w.heap.size + 1, 0, none⟩ = some (.slice a1_0 n1_0 c1_0) := by simp [go_sem]
  refine (szPathC _ _ _ z0_0 w.heap.size _ _ (h0_0.mk M0 (Nat.le_refl _) (.inr (Nat.le_refl _))) M0.size (by omega) (by omega) (by omega)).mono ?_
  rintro e w1 ⟨l1, hl1, rfl, m1⟩
  have M1 := M0.trans m1
  replace k0_0 := m1.cellAt k0_0
  replace k1_0 := m1.cellAt k1_0
  have z1 := m1.size
  simp only [World.size_alloc] at z1
  go_wp2_with fail
  refine (szPathC _ _ _ z1_0 w.heap.size _ _ (h1_0.mk M1 (Nat.le_refl _) (.inr (Nat.le_refl _))) M1.size (by omega) (by omega) (by omega)).mono ?_
  rintro e w2 ⟨l2, hl2, rfl, m2⟩
  have M2 := M1.trans m2
  have z2 := m2.size
  replace k0_0 := m2.cellAt k0_0
  replace k1_0 := m2.cellAt k1_0
  go_wp2_with fail
  have e1 : ∀ w', Mk0 w2 w' → HasPathPart w' w.heap.size a0_0 n0_0 z0_0 := fun w' m => h0_0.mk (M2.trans m) (Nat.le_refl _) (.inr (Nat.le_refl _))
  have hN0_0 : szPathPart z0_0 n0_0 ≤ 1048576 := by omega
  have e2 : ∀ w', Mk0 w2 w' → HasPathPart w' w.heap.size a1_0 n1_0 z1_0 := fun w' m => h1_0.mk (M2.trans m) (Nat.le_refl _) (.inr (Nat.le_refl _))
  have hN1_0 : szPathPart z1_0 n1_0 ≤ 1048576 := by omega
  go_region_held3 (fun w' => Mk0 w2 w' ∧ w'.cell? ⟨w.heap.size, 0, none⟩ = some (.slice a0_0 n0_0 c0_0) ∧ w'.cell? ⟨w.heap.size + 1, 0, none⟩ = some (.slice a1_0 n1_0 c1_0)) (first | exact ⟨Mk.drew1 _, k0_0, k1_0⟩ | (obtain ⟨s0, s1, s2⟩ := ‹Mk0 w2 _ ∧ _›; exact ⟨s0.trans mm, mm.cellAt s1, mm.cellAt s2⟩)) (first | (go_at_call 38; with_reducible refine (toPathC a0_0 n0_0 c0_0 z0_0 w.heap.size _ (e1 _ (‹Mk0 w2 _ ∧ _›).1) (M2.trans (‹Mk0 w2 _ ∧ _›).1).size hN0_0).mono ?_; rintro e wc0 ⟨bc0_0, rfl, oc0_0, gc0_0, mc0⟩; have mm := mc0) | (go_at_call 38; with_reducible refine (toPathC a1_0 n1_0 c1_0 z1_0 w.heap.size _ (e2 _ (‹Mk0 w2 _ ∧ _›).1) (M2.trans (‹Mk0 w2 _ ∧ _›).1).size hN1_0).mono ?_; rintro e wc1 ⟨bc1_0, rfl, oc1_0, gc1_0, mc1⟩; have mm := mc1) | (go_at_call 37; refine (specBetter _ _ _ _ _ _ _ _ z0_0 z1_0 _ (by first | exact (oc0_0.has.mono (Nat.le_refl _)) | exact (oc0_0.has.mono (Nat.le_refl _)).mk mc1 (Nat.le_refl _) (.inr (Nat.le_refl _))) (by first | exact (oc1_0.has.mono (Nat.le_refl _)) | exact (oc1_0.has.mono (Nat.le_refl _)).mk mc0 (Nat.le_refl _) (.inr (Nat.le_refl _))) (by first | exact Nat.le_refl _ | exact mc1.size) (by first | exact Nat.le_refl _ | exact mc0.size) hN0_0 hN1_0 f0_0 f1_0).mono ?_; rintro e wz3 ⟨rfl, mm⟩))
  all_goals (
    obtain ⟨m3, k0_0, k1_0⟩ := ‹Mk0 w2 _ ∧ _›
    refine ‹∀ (a : Act) (w : World), _ → _› _ _ ?_
    clear e1 hN0_0 e2 hN1_0
    have M3 := M2.trans m3
    have z3 := m3.size
    go_wp2_with fail
    refine (toPathC _ _ _ _ w.heap.size _ (h0_0.mk M3 (Nat.le_refl _) (.inr (Nat.le_refl _))) (by omega) (by omega)).mono ?_
    rintro e w4 ⟨b3, rfl, o4, g5, m4⟩
    have M4 := M3.trans m4
    have z4 := m4.size
    replace k0_0 := m4.cellAt k0_0
    replace k1_0 := m4.cellAt k1_0
    have h6 := o4.has.mono (B' := w4.heap.size) (by omega)
    clear o4
    have yb7 : w.heap.size < w4.heap.size := by omega
    have yb8 : w.heap.size + 1 < w4.heap.size := by omega
    go_wp2_with fail
    have xx0_0 : (w4.alloc (Obj.cells #[Value.slice (some ⟨b3, 0, none⟩) n0_0 n0_0] 75)).cell? ⟨w4.heap.size, 0, none⟩ = some (.slice (some ⟨b3, 0, none⟩) n0_0 n0_0) := by rw [World.cell?_alloc_at _ _ _ _ rfl]; rfl
    have m5 := Mk.alloc w4 (Obj.cells #[Value.slice (some ⟨b3, 0, none⟩) n0_0 n0_0] 75)
    replace k0_0 := m5.cellAt k0_0
    replace k1_0 := m5.cellAt k1_0
    replace h6 := h6.mk m5 (by omega) (.inr (Nat.le_refl _))
    have M5 := M4.trans m5
    have z5 := m5.size
    have zz5 : w4.heap.size < (w4.alloc (Obj.cells #[Value.slice (some ⟨b3, 0, none⟩) n0_0 n0_0] 75)).heap.size := by rw [World.size_alloc]; omega
    generalize (w4.alloc (Obj.cells #[Value.slice (some ⟨b3, 0, none⟩) n0_0 n0_0] 75)) = w5 at *
    refine (toPathC _ _ _ _ w.heap.size _ (h1_0.mk M5 (Nat.le_refl _) (.inr (Nat.le_refl _))) (by omega) (by omega)).mono ?_
    rintro e w6 ⟨b9, rfl, o10, g11, m6⟩
    have M6 := M5.trans m6
    have z6 := m6.size
    replace k0_0 := m6.cellAt k0_0
    replace k1_0 := m6.cellAt k1_0
    replace xx0_0 := m6.cellAt xx0_0
    replace h6 := h6.mk m6 (by omega) (.inr (Nat.le_refl _))
    have h12 := o10.has.mono (B' := w6.heap.size) (by omega)
    clear o10
    have yb13 : w.heap.size < w6.heap.size := by omega
    have yb14 : w.heap.size + 1 < w6.heap.size := by omega
    have yb15 : w4.heap.size < w6.heap.size := by omega
    go_wp2_with fail
    have xx1_0 : (w6.alloc (Obj.cells #[Value.slice (some ⟨b9, 0, none⟩) n1_0 n1_0] 75)).cell? ⟨w6.heap.size, 0, none⟩ = some (.slice (some ⟨b9, 0, none⟩) n1_0 n1_0) := by rw [World.cell?_alloc_at _ _ _ _ rfl]; rfl
    have m7 := Mk.alloc w6 (Obj.cells #[Value.slice (some ⟨b9, 0, none⟩) n1_0 n1_0] 75)
    replace k0_0 := m7.cellAt k0_0
    replace k1_0 := m7.cellAt k1_0
    replace xx0_0 := m7.cellAt xx0_0
    replace h6 := h6.mk m7 (by omega) (.inr (Nat.le_refl _))
    replace h12 := h12.mk m7 (by omega) (.inr (Nat.le_refl _))
    have M7 := M6.trans m7
    have z7 := m7.size
    have zz7 : w6.heap.size < (w6.alloc (Obj.cells #[Value.slice (some ⟨b9, 0, none⟩) n1_0 n1_0] 75)).heap.size := by rw [World.size_alloc]; omega
    generalize (w6.alloc (Obj.cells #[Value.slice (some ⟨b9, 0, none⟩) n1_0 n1_0] 75)) = w7 at *
    have hN0_0 : szPathPart z0_0 n0_0 ≤ 1048576 := by omega
    have hN1_0 : szPathPart z1_0 n1_0 ≤ 1048576 := by omega
    refine (implBetter _ _ _ _ _ _ _ _ z0_0 z1_0 _ h6 h12 (by omega) (by omega) hN0_0 hN1_0 f0_0 f1_0).mono ?_
    rintro e w8 ⟨rfl, m8⟩
    have M8 := M7.trans m8
    have z8 := m8.size
    replace k0_0 := m8.cellAt k0_0
    replace k1_0 := m8.cellAt k1_0
    replace xx0_0 := m8.cellAt xx0_0
    replace xx1_0 := m8.cellAt xx1_0
    replace h6 := h6.mk m8 (by omega) (.inr (Nat.le_refl _))
    replace h12 := h12.mk m8 (by omega) (.inr (Nat.le_refl _))
    go_wp2_with fail
    have e16 : ∀ w', Mk0 w8 w' → HasPathPart w' w4.heap.size (some ⟨b3, 0, none⟩) n0_0 z0_0 := fun w' m => h6.mk m (by omega) (.inr (Nat.le_refl _))
    have e17 : ∀ w', Mk0 w8 w' → w4.heap.size ≤ w'.heap.size := fun w' m => Nat.le_trans (by omega) m.size
    have e18 : ∀ w', Mk0 w8 w' → HasPathPart w' w.heap.size a0_0 n0_0 z0_0 := fun w' m => h0_0.mk (M8.trans m) (Nat.le_refl _) (.inr (Nat.le_refl _))
    have hN0_0 : szPathPart z0_0 n0_0 ≤ 1048576 := by omega
    go_region_held3 (fun w' => Mk0 w8 w' ∧ w'.cell? ⟨w.heap.size, 0, none⟩ = some (.slice a0_0 n0_0 c0_0) ∧ w'.cell? ⟨w.heap.size + 1, 0, none⟩ = some (.slice a1_0 n1_0 c1_0) ∧ w'.cell? ⟨w4.heap.size, 0, none⟩ = some (.slice (some ⟨b3, 0, none⟩) n0_0 n0_0) ∧ w'.cell? ⟨w6.heap.size, 0, none⟩ = some (.slice (some ⟨b9, 0, none⟩) n1_0 n1_0)) (first | exact ⟨Mk.drew1 _, k0_0, k1_0, xx0_0, xx1_0⟩ | (obtain ⟨s0, s1, s2, s3, s4⟩ := ‹Mk0 w8 _ ∧ _›; exact ⟨s0.trans mm, mm.cellAt s1, mm.cellAt s2, mm.cellAt s3, mm.cellAt s4⟩)) (first | (go_at_call 38; refine (toPathC _ _ _ _ w.heap.size _ (e18 _ (‹Mk0 w8 _ ∧ _›).1) (M8.trans (‹Mk0 w8 _ ∧ _›).1).size hN0_0).mono ?_; rintro e wa ⟨bb0, rfl, oo0, gg0, mm⟩) | (go_at_call 40; refine (eqPathC _ _ _ _ _ _ _ _ _ (e16 _ (‹Mk0 w8 _ ∧ _›).1) (oo0.has.mono (Nat.le_refl _)) (e17 _ (‹Mk0 w8 _ ∧ _›).1) (Nat.le_refl _) hN0_0).mono ?_; rintro e wb9 ⟨rfl, mm⟩))
    obtain ⟨m9, k0_0, k1_0, xx0_0, xx1_0⟩ := ‹Mk0 w8 _ ∧ _›
    clear e16 e17 e18 hN0_0
    refine ‹∀ (a : Act) (w : World), _ → _› _ _ ?_
    have M9 := M8.trans m9
    have z9 := m9.size
    replace h6 := h6.mk m9 (by omega) (.inr (Nat.le_refl _))
    replace h12 := h12.mk m9 (by omega) (.inr (Nat.le_refl _))
    go_wp2_with fail
    have e19 : ∀ w', Mk0 wb9 w' → HasPathPart w' w6.heap.size (some ⟨b9, 0, none⟩) n1_0 z1_0 := fun w' m => h12.mk m (by omega) (.inr (Nat.le_refl _))
    have e20 : ∀ w', Mk0 wb9 w' → w6.heap.size ≤ w'.heap.size := fun w' m => Nat.le_trans (by omega) m.size
    have e21 : ∀ w', Mk0 wb9 w' → HasPathPart w' w.heap.size a1_0 n1_0 z1_0 := fun w' m => h1_0.mk (M9.trans m) (Nat.le_refl _) (.inr (Nat.le_refl _))
    have hN1_0 : szPathPart z1_0 n1_0 ≤ 1048576 := by omega
    go_region_held3 (fun w' => Mk0 wb9 w' ∧ w'.cell? ⟨w.heap.size, 0, none⟩ = some (.slice a0_0 n0_0 c0_0) ∧ w'.cell? ⟨w.heap.size + 1, 0, none⟩ = some (.slice a1_0 n1_0 c1_0) ∧ w'.cell? ⟨w4.heap.size, 0, none⟩ = some (.slice (some ⟨b3, 0, none⟩) n0_0 n0_0) ∧ w'.cell? ⟨w6.heap.size, 0, none⟩ = some (.slice (some ⟨b9, 0, none⟩) n1_0 n1_0)) (first | exact ⟨Mk.drew1 _, k0_0, k1_0, xx0_0, xx1_0⟩ | (obtain ⟨s0, s1, s2, s3, s4⟩ := ‹Mk0 wb9 _ ∧ _›; exact ⟨s0.trans mm, mm.cellAt s1, mm.cellAt s2, mm.cellAt s3, mm.cellAt s4⟩)) (first | (go_at_call 38; refine (toPathC _ _ _ _ w.heap.size _ (e21 _ (‹Mk0 wb9 _ ∧ _›).1) (M9.trans (‹Mk0 wb9 _ ∧ _›).1).size hN1_0).mono ?_; rintro e wa ⟨bb0, rfl, oo0, gg0, mm⟩) | (go_at_call 40; refine (eqPathC _ _ _ _ _ _ _ _ _ (e19 _ (‹Mk0 wb9 _ ∧ _›).1) (oo0.has.mono (Nat.le_refl _)) (e20 _ (‹Mk0 wb9 _ ∧ _›).1) (Nat.le_refl _) hN1_0).mono ?_; rintro e wb10 ⟨rfl, mm⟩))
    obtain ⟨m10, k0_0, k1_0, xx0_0, xx1_0⟩ := ‹Mk0 wb9 _ ∧ _›
    clear e19 e20 e21 hN1_0
    refine ‹∀ (a : Act) (w : World), _ → _› _ _ ?_
    have M10 := M9.trans m10
    have z10 := m10.size
    replace h12 := h12.mk m10 (by omega) (.inr (Nat.le_refl _))
    go_wp2_with fail
    go_ret
    exact ⟨rfl, M10.below0⟩)

set_option maxRecDepth 100000 in
theorem lifted (os : Os) (started : os.Started) (H : Type) (enc : TypeId × Value → H) :
    ReturnsInHanded {} Try.checked os 8 .any (Rows.fnExactBetterPathSpec.pre6 enc Try.prog Try.f8 Rows.fnExactBetterPathRow.domain false) (Rows.fnExactBetterPathSpec.post enc Try.prog Try.f8 false true false false) := by
  refine returnsInHanded_of_change (C := Try.checked) own started (by kernel_rfl) Try.func8
    (ChangeSpec.witness6 (enc := enc) (C := Try.checked) false ⟨#[], #[.agg #[.slice none 0 0], .agg #[.slice none 0 0]], []⟩ 8 (by kernel_rfl) (by kernel_rfl) (by kernel_rfl) (by kernel_rfl)) ?_
  intro W base args ds gs before hval0 hW hcnd _
  have hval : ∀ (j : Nat) t v, Try.f8.params[j]? = some t → args[j]? = some v → Value.okWide Try.prog W .any base t v := hval0
  have hW' := hW
  obtain ⟨p, q, hA0, hV, rfl, hfz, hnd⟩ := hW
  have hA : DataW.TrodAll enc Try.prog W 0 (fun _ => true) true Try.f8.params.toList args.toList ds p := hA0
  rw [Try.params8] at hA hval
  obtain ⟨v0, vs0, d0, ds0, p0, q0, hargs, rfl, rfl, h0, r0⟩ := trodAll_cons hA
  obtain ⟨v1, vs1, d1, ds1, p1, q1, rfl, rfl, rfl, h1, r1⟩ := trodAll_cons r0
  obtain ⟨rfl, rfl, rfl⟩ := trodAll_nil r1
  obtain rfl : args = #[v0, v1] := by cases args; simp_all
  obtain ⟨rfl, rfl⟩ := trodVars_none hV
  have k0 := h0
  have lt0 : ∀ x ∈ p0, x.block < W.heap.size := by obtain ⟨m, hm⟩ := k0; exact DataW.trod_lt m _ _ _ hm
  obtain ⟨cs0, rfl, hcs0, hf0⟩ := open_agg Try.underlying70 (by kernel_rfl) (by kernel_rfl) (hval 0 70 v0 rfl rfl) h0
  obtain ⟨_, _, _, e0_0, q0_0⟩ := hf0 0 _ rfl
  obtain ⟨a0_0, n0_0, c0_0, z0_0, rfl, m0_0, h0_0, f0_0⟩ := openPathPartS q0_0
  obtain rfl : cs0 = #[.slice a0_0 n0_0 c0_0] := arr_of [.slice a0_0 n0_0 c0_0] hcs0 (fun j hj => by match j, hj with | 0, _ => exact e0_0)
  have k1 := h1
  have lt1 : ∀ x ∈ p1, x.block < W.heap.size := by obtain ⟨m, hm⟩ := k1; exact DataW.trod_lt m _ _ _ hm
  obtain ⟨cs1, rfl, hcs1, hf1⟩ := open_agg Try.underlying70 (by kernel_rfl) (by kernel_rfl) (hval 1 70 v1 rfl rfl) h1
  obtain ⟨_, _, _, e1_0, q1_0⟩ := hf1 0 _ rfl
  obtain ⟨a1_0, n1_0, c1_0, z1_0, rfl, m1_0, h1_0, f1_0⟩ := openPathPartS q1_0
  obtain rfl : cs1 = #[.slice a1_0 n1_0 c1_0] := arr_of [.slice a1_0 n1_0 c1_0] hcs1 (fun j hj => by match j, hj with | 0, _ => exact e1_0)
  clear hA0 hval0
  refine (walk a0_0 n0_0 c0_0 z0_0 a1_0 n1_0 c1_0 z1_0 W h0_0 m0_0 f0_0 h1_0 m1_0 f1_0).mono fun e W' ⟨he, bel⟩ => ?_
  subst he
  exact ⟨_, rfl, _, _, _, [], _, [], hW', trodAll_mk1 (shut_bool Try.underlying4 _), (trodAll_cons_mk (Below.trod laidOut (by kernel_rfl) (of_decide_eq_true (by kernel_rfl)) k0 bel lt0) (trodAll_cons_mk (Below.trod laidOut (by kernel_rfl) (of_decide_eq_true (by kernel_rfl)) k1 bel lt1) trodAll_mk0)), rfl, bel.frame _, fun h => by cases h⟩

theorem over : Rows.fnExactBetterPathRow.holds Try.pinned (OpenSpec.ofChange Rows.fnExactBetterPathSpec) :=
  OpenClaim.holds_of_wide 8 Try.f8 rfl rfl rfl rfl rfl rfl rfl ⟨rfl, rfl, rfl, rfl, rfl⟩ rfl rfl rfl rfl rfl (by kernel_rfl) Try.func8 (by kernel_rfl)
    (of_decide_eq_true (by kernel_rfl)) (by unfold Func.isWrapper; first | (rw [if_pos (by decide +kernel)]; kernel_rfl) | (rw [if_neg (by decide +kernel)]; exact ⟨rfl, rfl⟩))
    (fun os started H enc _ => lifted os started H enc)

theorem proved : Rows.FnExactBetterPathSaid := over
#print axioms proved
end Go.Proofs.Ytiphndgmgpiodaa.fnExactBetterPath
