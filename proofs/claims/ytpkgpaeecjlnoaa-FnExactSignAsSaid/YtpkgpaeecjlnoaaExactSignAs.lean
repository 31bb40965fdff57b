
/- For every topology, every AS and every list of integers, the law on SignAs returns true; no further condition. -/
import Derived.Test.YtpkgpaeecjlnoaaRows
import Derived.WalkKit
import Derived.ProofKit
import Derived.OpenShut
import Derived.ShutString
import Derived.ChangeOld
import Derived.Below
import Derived.Test.YtpkgpaeecjlnoaaOAS
import Derived.Test.YtpkgpaeecjlnoaaZAS
import Derived.Test.YtpkgpaeecjlnoaaOLink
import Derived.Test.YtpkgpaeecjlnoaaZLink
import Derived.Test.YtpkgpaeecjlnoaaStruct
import Derived.Deep.RegionHeld3
import Derived.Test.YtpkgpaeecjlnoaaSignAs2
import Derived.Test.YtpkgpaeecjlnoaaIntR
import Derived.Test.YtpkgpaeecjlnoaaSSignature
namespace Go.Proofs.Ytpkgpaeecjlnoaa.fnExactSignAs
open Go.ChangeShapes Go.WideShapes Go.ChangeAt Go.RowKit
open Go.ChangeMaps (open_string shut_string)
set_option linter.unusedVariables false

theorem own : ownKnob Try.prog.godebug = none := by kernel_rfl
theorem laidOut : laidOutB Try.prog = true := by kernel_rfl

set_option maxRecDepth 100000 in
set_option maxHeartbeats 4000000 in
theorem walk (a0_0 : Option Addr) (n0_0 c0_0 : Nat) (z0_0 : List TAS) (a0_1 : Option Addr) (n0_1 c0_1 : Nat) (z0_1 : List TLink) (a1 : Int) (a2_ : Option Addr) (n2_ c2_ : Nat) (z2_ : List Int) (w : World) (h0_0 : HasAS w w.heap.size a0_0 n0_0 z0_0) (m0_0 : n0_0 ≤ 9223372036854775807) (f0_0 : ∀ x ∈ z0_0, TAS.fits x) (h0_1 : HasLink w w.heap.size a0_1 n0_1 z0_1) (m0_1 : n0_1 ≤ 9223372036854775807) (f0_1 : ∀ x ∈ z0_1, TLink.fits x) (w1 : (Lit.int .i64 a1).wf = true) (h2_ : HasInt w w.heap.size a2_ n2_ z2_) (m2_ : n2_ ≤ 9223372036854775807) (f2_ : ∀ z ∈ z2_, (Lit.int .i64 z).wf = true) :
    Calls Try.prog 6 #[.agg #[.slice a0_0 n0_0 c0_0, .slice a0_1 n0_1 c0_1], .int .i64 a1, .slice a2_ n2_ c2_] w fun e w' => e = .returned (.bool true) ∧ Below w.heap.size w w' := by
  obtain ⟨sg, hsg⟩ : ∃ sg, sgW z0_0 n0_0 a1 z2_ sg := ⟨_, rfl⟩
  by_cases hbig2 : 1048576 < n2_
  · have hb2 : (1048576 : Int) < (n2_ : Int) := by omega
    go_enter Try.func6, Try.ntmps6
    go_wp2_with fail
    have M0 : Mk0 w (w.alloc (Obj.cells #[Value.slice a0_0 n0_0 c0_0, Value.slice a0_1 n0_1 c0_1] 25)) := (Mk.alloc w _)
    have k0_0 : (w.alloc (Obj.cells #[Value.slice a0_0 n0_0 c0_0, Value.slice a0_1 n0_1 c0_1] 25)).cell? ⟨w.heap.size, 0, none⟩ = some (.slice a0_0 n0_0 c0_0) := by simp [go_sem]
    have k0_1 : (w.alloc (Obj.cells #[Value.slice a0_0 n0_0 c0_0, Value.slice a0_1 n0_1 c0_1] 25)).cell? ⟨w.heap.size, 1, none⟩ = some (.slice a0_1 n0_1 c0_1) := by simp [go_sem]
    go_ret
    exact ⟨rfl, M0.below0⟩
  have hn2 : n2_ ≤ 1048576 := by omega
  have hp2 : (n2_ : Int) ≤ 1048576 := by omega
  clear hbig2
  by_cases hbig0 : (1048576 : Int) < (n0_0 : Int) + (n0_1 : Int)
  · go_enter Try.func6, Try.ntmps6
    go_wp2_with fail
    have M0 : Mk0 w (w.alloc (Obj.cells #[Value.slice a0_0 n0_0 c0_0, Value.slice a0_1 n0_1 c0_1] 25)) := (Mk.alloc w _)
    have k0_0 : (w.alloc (Obj.cells #[Value.slice a0_0 n0_0 c0_0, Value.slice a0_1 n0_1 c0_1] 25)).cell? ⟨w.heap.size, 0, none⟩ = some (.slice a0_0 n0_0 c0_0) := by simp [go_sem]
    have k0_1 : (w.alloc (Obj.cells #[Value.slice a0_0 n0_0 c0_0, Value.slice a0_1 n0_1 c0_1] 25)).cell? ⟨w.heap.size, 1, none⟩ = some (.slice a0_1 n0_1 c0_1) := by simp [go_sem]
    refine (szTopologyB _ _ _ _ _ _ _ _ (by omega) (by omega) (by omega) m0_0 m0_1).mono ?_
    rintro e w1 ⟨rfl, m1⟩
    go_wp2_with fail
    go_ret
    exact ⟨rfl, (M0.trans m1).below0⟩
  have hn0 : (n0_0 : Int) + (n0_1 : Int) ≤ (1048576 : Int) := by omega
  clear hbig0
  go_enter Try.func6, Try.ntmps6
  go_wp2_with fail
  have M0 : Mk0 w (w.alloc (Obj.cells #[Value.slice a0_0 n0_0 c0_0, Value.slice a0_1 n0_1 c0_1] 25)) := (Mk.alloc w _)
  have k0_0 : (w.alloc (Obj.cells #[Value.slice a0_0 n0_0 c0_0, Value.slice a0_1 n0_1 c0_1] 25)).cell? ⟨w.heap.size, 0, none⟩ = some (.slice a0_0 n0_0 c0_0) := by simp [go_sem]
  have k0_1 : (w.alloc (Obj.cells #[Value.slice a0_0 n0_0 c0_0, Value.slice a0_1 n0_1 c0_1] 25)).cell? ⟨w.heap.size, 1, none⟩ = some (.slice a0_1 n0_1 c0_1) := by simp [go_sem]
  refine (szTopologyC _ _ _ _ _ _ _ _ (by omega) (by omega) (by omega)).mono ?_
  rintro e w1 ⟨l1, hl1, rfl, m1⟩
  have M1 := M0.trans m1
  replace k0_0 := m1.cellAt k0_0
  replace k0_1 := m1.cellAt k0_1
  have z1 := m1.size
  simp only [World.size_alloc] at z1
  go_wp2_with fail
  have hN0_0 : n0_0 ≤ 1048576 := by omega
  have hN0_1 : n0_1 ≤ 1048576 := by omega
  have hN2_ : n2_ ≤ 1048576 := by omega
  refine (toTopologyC _ _ _ _ _ _ _ _ w.heap.size _ (h0_0.mk M1 (Nat.le_refl _) (.inr (Nat.le_refl _))) (h0_1.mk M1 (Nat.le_refl _) (.inr (Nat.le_refl _))) (by omega) (by omega) (by omega)).mono ?_
  rintro e w2 ⟨b1, b2, d3, rfl, o4, o5, g6, g7, m2⟩
  have M2 := M1.trans m2
  have z2 := m2.size
  replace k0_0 := m2.cellAt k0_0
  replace k0_1 := m2.cellAt k0_1
  have h8 := o4.has.mono (B' := w2.heap.size) (by omega)
  clear o4
  have h9 := o5.has.mono (B' := w2.heap.size) (by omega)
  clear o5
  go_wp2_with fail
  refine (toIntS _ _ _ w.heap.size _ _ (h2_.mk M2 (Nat.le_refl _) (.inr (Nat.le_refl _))) (by omega) (by omega)).mono ?_
  rintro e w3 ⟨b10, rfl, o11, m3⟩
  have M3 := M2.trans m3
  have z3 := m3.size
  replace k0_0 := m3.cellAt k0_0
  replace k0_1 := m3.cellAt k0_1
  replace h8 := h8.mk m3 (by omega) (.inr (Nat.le_refl _))
  replace h9 := h9.mk m3 (by omega) (.inr (Nat.le_refl _))
  have h12 := o11.has.mono (B' := w3.heap.size) (by omega)
  clear o11
  go_wp2_with fail
  refine (specSignAs _ _ _ _ _ _ _ z0_0 a1 _ _ _ _ z2_ sg hsg _ h8 (by omega) hN0_0 f0_0 (hasR_int.1 h12) (by omega) hN2_ (fun h => by cases h) f2_).mono ?_
  rintro e w4 ⟨rfl, m4⟩
  have M4 := M3.trans m4
  have z4 := m4.size
  replace k0_0 := m4.cellAt k0_0
  replace k0_1 := m4.cellAt k0_1
  replace h8 := h8.mk m4 (by omega) (.inr (Nat.le_refl _))
  replace h9 := h9.mk m4 (by omega) (.inr (Nat.le_refl _))
  replace h12 := h12.mk m4 (by omega) (.inr (Nat.le_refl _))
  have yb13 : w.heap.size < w4.heap.size := by omega
  go_wp2_with fail
  have xw0_0 : (w4.alloc (Obj.cells #[Value.int .i64 sg.nd, Value.int .i64 sg.val] 53)).cell? ⟨w4.heap.size, 0, none⟩ = some (.int .i64 sg.nd) := by rw [World.cell?_alloc_at _ _ _ _ rfl]; rfl
  have xw0_1 : (w4.alloc (Obj.cells #[Value.int .i64 sg.nd, Value.int .i64 sg.val] 53)).cell? ⟨w4.heap.size, 1, none⟩ = some (.int .i64 sg.val) := by rw [World.cell?_alloc_at _ _ _ _ rfl]; rfl
  have m5 := Mk.alloc w4 (Obj.cells #[Value.int .i64 sg.nd, Value.int .i64 sg.val] 53)
  replace k0_0 := m5.cellAt k0_0
  replace k0_1 := m5.cellAt k0_1
  replace h8 := h8.mk m5 (by omega) (.inr (Nat.le_refl _))
  replace h9 := h9.mk m5 (by omega) (.inr (Nat.le_refl _))
  replace h12 := h12.mk m5 (by omega) (.inr (Nat.le_refl _))
  have M5 := M4.trans m5
  have z5 := m5.size
  have zz5 : w4.heap.size < (w4.alloc (Obj.cells #[Value.int .i64 sg.nd, Value.int .i64 sg.val] 53)).heap.size := by rw [World.size_alloc]; omega
  generalize (w4.alloc (Obj.cells #[Value.int .i64 sg.nd, Value.int .i64 sg.val] 53)) = w5 at *
  refine (toTopologyC _ _ _ _ _ _ _ _ w.heap.size _ (h0_0.mk M5 (Nat.le_refl _) (.inr (Nat.le_refl _))) (h0_1.mk M5 (Nat.le_refl _) (.inr (Nat.le_refl _))) (by omega) (by omega) (by omega)).mono ?_
  rintro e w6 ⟨b14, b15, d16, rfl, o17, o18, g19, g20, m6⟩
  have M6 := M5.trans m6
  have z6 := m6.size
  replace k0_0 := m6.cellAt k0_0
  replace k0_1 := m6.cellAt k0_1
  replace xw0_0 := m6.cellAt xw0_0
  replace xw0_1 := m6.cellAt xw0_1
  have h21 := o17.has.mono (B' := w6.heap.size) (by omega)
  clear o17
  have h22 := o18.has.mono (B' := w6.heap.size) (by omega)
  clear o18
  have yb23 : w.heap.size < w6.heap.size := by omega
  have yb24 : w4.heap.size < w6.heap.size := by omega
  go_wp2_with fail
  have xx0_0 : (w6.alloc (Obj.cells #[Value.slice (some ⟨b14, 0, none⟩) n0_0 n0_0, Value.slice (some ⟨b15, 0, none⟩) n0_1 n0_1] 35)).cell? ⟨w6.heap.size, 0, none⟩ = some (.slice (some ⟨b14, 0, none⟩) n0_0 n0_0) := by rw [World.cell?_alloc_at _ _ _ _ rfl]; rfl
  have xx0_1 : (w6.alloc (Obj.cells #[Value.slice (some ⟨b14, 0, none⟩) n0_0 n0_0, Value.slice (some ⟨b15, 0, none⟩) n0_1 n0_1] 35)).cell? ⟨w6.heap.size, 1, none⟩ = some (.slice (some ⟨b15, 0, none⟩) n0_1 n0_1) := by rw [World.cell?_alloc_at _ _ _ _ rfl]; rfl
  have m7 := Mk.alloc w6 (Obj.cells #[Value.slice (some ⟨b14, 0, none⟩) n0_0 n0_0, Value.slice (some ⟨b15, 0, none⟩) n0_1 n0_1] 35)
  replace k0_0 := m7.cellAt k0_0
  replace k0_1 := m7.cellAt k0_1
  replace xw0_0 := m7.cellAt xw0_0
  replace xw0_1 := m7.cellAt xw0_1
  replace h21 := h21.mk m7 (by omega) (.inr (Nat.le_refl _))
  replace h22 := h22.mk m7 (by omega) (.inr (Nat.le_refl _))
  have M7 := M6.trans m7
  have z7 := m7.size
  have zz7 : w6.heap.size < (w6.alloc (Obj.cells #[Value.slice (some ⟨b14, 0, none⟩) n0_0 n0_0, Value.slice (some ⟨b15, 0, none⟩) n0_1 n0_1] 35)).heap.size := by rw [World.size_alloc]; omega
  generalize (w6.alloc (Obj.cells #[Value.slice (some ⟨b14, 0, none⟩) n0_0 n0_0, Value.slice (some ⟨b15, 0, none⟩) n0_1 n0_1] 35)) = w7 at *
  refine (toIntS _ _ _ w.heap.size _ _ (h2_.mk M7 (Nat.le_refl _) (.inr (Nat.le_refl _))) (by omega) (by omega)).mono ?_
  rintro e w8 ⟨b25, rfl, o26, m8⟩
  have M8 := M7.trans m8
  have z8 := m8.size
  replace k0_0 := m8.cellAt k0_0
  replace k0_1 := m8.cellAt k0_1
  replace xw0_0 := m8.cellAt xw0_0
  replace xw0_1 := m8.cellAt xw0_1
  replace xx0_0 := m8.cellAt xx0_0
  replace xx0_1 := m8.cellAt xx0_1
  replace h21 := h21.mk m8 (by omega) (.inr (Nat.le_refl _))
  replace h22 := h22.mk m8 (by omega) (.inr (Nat.le_refl _))
  have h27 := o26.has.mono (B' := w8.heap.size) (by omega)
  clear o26
  go_wp2_with fail
  refine (implSignAs _ _ _ _ _ _ _ z0_0 a1 _ _ _ _ z2_ sg hsg _ h21 (by omega) hN0_0 f0_0 (hasR_int.1 h27) (by omega) hN2_ (fun h => by cases h) f2_).mono ?_
  rintro e w9 ⟨rfl, m9⟩
  have M9 := M8.trans m9
  have z9 := m9.size
  replace k0_0 := m9.cellAt k0_0
  replace k0_1 := m9.cellAt k0_1
  replace xw0_0 := m9.cellAt xw0_0
  replace xw0_1 := m9.cellAt xw0_1
  replace xx0_0 := m9.cellAt xx0_0
  replace xx0_1 := m9.cellAt xx0_1
  replace h21 := h21.mk m9 (by omega) (.inr (Nat.le_refl _))
  replace h22 := h22.mk m9 (by omega) (.inr (Nat.le_refl _))
  replace h27 := h27.mk m9 (by omega) (.inr (Nat.le_refl _))
  have yb28 : w.heap.size < w9.heap.size := by omega
  have yb29 : w4.heap.size < w9.heap.size := by omega
  have yb30 : w6.heap.size < w9.heap.size := by omega
  go_wp2_with fail
  have xg0_0 : (w9.alloc (Obj.cells #[Value.int .i64 sg.nd, Value.int .i64 sg.val] 53)).cell? ⟨w9.heap.size, 0, none⟩ = some (.int .i64 sg.nd) := by rw [World.cell?_alloc_at _ _ _ _ rfl]; rfl
  have xg0_1 : (w9.alloc (Obj.cells #[Value.int .i64 sg.nd, Value.int .i64 sg.val] 53)).cell? ⟨w9.heap.size, 1, none⟩ = some (.int .i64 sg.val) := by rw [World.cell?_alloc_at _ _ _ _ rfl]; rfl
  have m10 := Mk.alloc w9 (Obj.cells #[Value.int .i64 sg.nd, Value.int .i64 sg.val] 53)
  replace k0_0 := m10.cellAt k0_0
  replace k0_1 := m10.cellAt k0_1
  replace xw0_0 := m10.cellAt xw0_0
  replace xw0_1 := m10.cellAt xw0_1
  replace xx0_0 := m10.cellAt xx0_0
  replace xx0_1 := m10.cellAt xx0_1
  replace h21 := h21.mk m10 (by omega) (.inr (Nat.le_refl _))
  replace h22 := h22.mk m10 (by omega) (.inr (Nat.le_refl _))
  replace h27 := h27.mk m10 (by omega) (.inr (Nat.le_refl _))
  have M10 := M9.trans m10
  have z10 := m10.size
  have zz10 : w9.heap.size < (w9.alloc (Obj.cells #[Value.int .i64 sg.nd, Value.int .i64 sg.val] 53)).heap.size := by rw [World.size_alloc]; omega
  generalize (w9.alloc (Obj.cells #[Value.int .i64 sg.nd, Value.int .i64 sg.val] 53)) = w10 at *
  refine (eqSignatureV sg _).mono ?_
  rintro e w11 ⟨rfl, m11⟩
  have M11 := M10.trans m11
  have z11 := m11.size
  replace k0_0 := m11.cellAt k0_0
  replace k0_1 := m11.cellAt k0_1
  replace xw0_0 := m11.cellAt xw0_0
  replace xw0_1 := m11.cellAt xw0_1
  replace xx0_0 := m11.cellAt xx0_0
  replace xx0_1 := m11.cellAt xx0_1
  replace xg0_0 := m11.cellAt xg0_0
  replace xg0_1 := m11.cellAt xg0_1
  replace h21 := h21.mk m11 (by omega) (.inr (Nat.le_refl _))
  replace h22 := h22.mk m11 (by omega) (.inr (Nat.le_refl _))
  replace h27 := h27.mk m11 (by omega) (.inr (Nat.le_refl _))
  go_wp2_with fail
  have e31 : ∀ w', Mk0 w11 w' → HasAS w' w6.heap.size (some ⟨b14, 0, none⟩) n0_0 z0_0 := fun w' m => h21.mk m (by omega) (.inr (Nat.le_refl _))
  have e32 : ∀ w', Mk0 w11 w' → HasLink w' w6.heap.size (some ⟨b15, 0, none⟩) n0_1 z0_1 := fun w' m => h22.mk m (by omega) (.inr (Nat.le_refl _))
  have e33 : ∀ w', Mk0 w11 w' → w6.heap.size ≤ w'.heap.size := fun w' m => Nat.le_trans (by omega) m.size
  have e34 : ∀ w', Mk0 w11 w' → HasAS w' w.heap.size a0_0 n0_0 z0_0 := fun w' m => h0_0.mk (M11.trans m) (Nat.le_refl _) (.inr (Nat.le_refl _))
  have e35 : ∀ w', Mk0 w11 w' → HasLink w' w.heap.size a0_1 n0_1 z0_1 := fun w' m => h0_1.mk (M11.trans m) (Nat.le_refl _) (.inr (Nat.le_refl _))
  have hN0_0 : n0_0 ≤ 1048576 := by omega
  have hN0_1 : n0_1 ≤ 1048576 := by omega
  go_region_held3 (fun w' => Mk0 w11 w' ∧ w'.cell? ⟨w.heap.size, 0, none⟩ = some (.slice a0_0 n0_0 c0_0) ∧ w'.cell? ⟨w.heap.size, 1, none⟩ = some (.slice a0_1 n0_1 c0_1) ∧ w'.cell? ⟨w4.heap.size, 0, none⟩ = some (.int .i64 sg.nd) ∧ w'.cell? ⟨w4.heap.size, 1, none⟩ = some (.int .i64 sg.val) ∧ w'.cell? ⟨w6.heap.size, 0, none⟩ = some (.slice (some ⟨b14, 0, none⟩) n0_0 n0_0) ∧ w'.cell? ⟨w6.heap.size, 1, none⟩ = some (.slice (some ⟨b15, 0, none⟩) n0_1 n0_1) ∧ w'.cell? ⟨w9.heap.size, 0, none⟩ = some (.int .i64 sg.nd) ∧ w'.cell? ⟨w9.heap.size, 1, none⟩ = some (.int .i64 sg.val)) (first | exact ⟨Mk.drew1 _, k0_0, k0_1, xw0_0, xw0_1, xx0_0, xx0_1, xg0_0, xg0_1⟩ | (obtain ⟨s0, s1, s2, s3, s4, s5, s6, s7, s8⟩ := ‹Mk0 w11 _ ∧ _›; exact ⟨s0.trans mm, mm.cellAt s1, mm.cellAt s2, mm.cellAt s3, mm.cellAt s4, mm.cellAt s5, mm.cellAt s6, mm.cellAt s7, mm.cellAt s8⟩)) (first | (go_at_call 18; refine (toTopologyC _ _ _ _ _ _ _ _ w.heap.size _ (e34 _ (‹Mk0 w11 _ ∧ _›).1) (e35 _ (‹Mk0 w11 _ ∧ _›).1) (M11.trans (‹Mk0 w11 _ ∧ _›).1).size hN0_0 hN0_1).mono ?_; rintro e wa ⟨bb0, bb1, dd0, rfl, oo0, oo1, gg0, gg1, mm⟩) | (go_at_call 21; refine (eqTopologyC _ _ _ _ _ _ _ _ _ _ _ _ _ _ _ (e31 _ (‹Mk0 w11 _ ∧ _›).1) (e32 _ (‹Mk0 w11 _ ∧ _›).1) (oo0.has.mono gg1) (oo1.has.mono (Nat.le_refl _)) (e33 _ (‹Mk0 w11 _ ∧ _›).1) (Nat.le_refl _) hN0_0 hN0_1).mono ?_; rintro e wb12 ⟨rfl, mm⟩))
  obtain ⟨m12, k0_0, k0_1, xw0_0, xw0_1, xx0_0, xx0_1, xg0_0, xg0_1⟩ := ‹Mk0 w11 _ ∧ _›
  clear e31 e32 e33 e34 e35 hN0_0 hN0_1
  refine ‹∀ (a : Act) (w : World), _ → _› _ _ ?_
  have M12 := M11.trans m12
  have z12 := m12.size
  replace h21 := h21.mk m12 (by omega) (.inr (Nat.le_refl _))
  replace h22 := h22.mk m12 (by omega) (.inr (Nat.le_refl _))
  replace h27 := h27.mk m12 (by omega) (.inr (Nat.le_refl _))
  go_wp2_with fail
  refine (toIntS _ _ _ w.heap.size _ _ (h2_.mk M12 (Nat.le_refl _) (.inr (Nat.le_refl _))) (by omega) (by omega)).mono ?_
  rintro e w13 ⟨b36, rfl, o37, m13⟩
  have M13 := M12.trans m13
  have z13 := m13.size
  replace k0_0 := m13.cellAt k0_0
  replace k0_1 := m13.cellAt k0_1
  replace xw0_0 := m13.cellAt xw0_0
  replace xw0_1 := m13.cellAt xw0_1
  replace xx0_0 := m13.cellAt xx0_0
  replace xx0_1 := m13.cellAt xx0_1
  replace xg0_0 := m13.cellAt xg0_0
  replace xg0_1 := m13.cellAt xg0_1
  replace h27 := h27.mk m13 (by omega) (.inr (Nat.le_refl _))
  have h38 := o37.has.mono (B' := w13.heap.size) (by omega)
  clear o37
  go_wp2_with fail
  refine (eqIntS _ _ _ _ _ _ _ _ _ h27 h38 (by omega) (by omega) (by omega)).mono ?_
  rintro e w14 ⟨rfl, m14⟩
  have M14 := M13.trans m14
  have z14 := m14.size
  replace k0_0 := m14.cellAt k0_0
  replace k0_1 := m14.cellAt k0_1
  replace xw0_0 := m14.cellAt xw0_0
  replace xw0_1 := m14.cellAt xw0_1
  replace xx0_0 := m14.cellAt xx0_0
  replace xx0_1 := m14.cellAt xx0_1
  replace xg0_0 := m14.cellAt xg0_0
  replace xg0_1 := m14.cellAt xg0_1
  replace h27 := h27.mk m14 (by omega) (.inr (Nat.le_refl _))
  replace h38 := h38.mk m14 (by omega) (.inr (Nat.le_refl _))
  go_wp2_with fail
  go_ret
  exact ⟨rfl, M14.below0⟩

set_option maxRecDepth 100000 in
theorem lifted (os : Os) (started : os.Started) (H : Type) (enc : TypeId × Value → H) :
    ReturnsInHanded {} Try.checked os 6 .any (Rows.fnExactSignAsSpec.pre6 enc Try.prog Try.f6 Rows.fnExactSignAsRow.domain false) (Rows.fnExactSignAsSpec.post enc Try.prog Try.f6 false true false false) := by
  refine returnsInHanded_of_change (C := Try.checked) own started (by kernel_rfl) Try.func6
    (ChangeSpec.witness6 (enc := enc) (C := Try.checked) false ⟨#[], #[.agg #[.slice none 0 0, .slice none 0 0], .int .i64 0, .slice none 0 0], []⟩ 8 (by kernel_rfl) (by kernel_rfl) (by kernel_rfl) (by kernel_rfl)) ?_
  intro W base args ds gs before hval0 hW hcnd _
  have hval : ∀ (j : Nat) t v, Try.f6.params[j]? = some t → args[j]? = some v → Value.okWide Try.prog W .any base t v := hval0
  have hW' := hW
  obtain ⟨p, q, hA0, hV, rfl, hfz, hnd⟩ := hW
  have hA : DataW.TrodAll enc Try.prog W 0 (fun _ => true) true Try.f6.params.toList args.toList ds p := hA0
  rw [Try.params6] at hA hval
  obtain ⟨v0, vs0, d0, ds0, p0, q0, hargs, rfl, rfl, h0, r0⟩ := trodAll_cons hA
  obtain ⟨v1, vs1, d1, ds1, p1, q1, rfl, rfl, rfl, h1, r1⟩ := trodAll_cons r0
  obtain ⟨v2, vs2, d2, ds2, p2, q2, rfl, rfl, rfl, h2, r2⟩ := trodAll_cons r1
  obtain ⟨rfl, rfl, rfl⟩ := trodAll_nil r2
  obtain rfl : args = #[v0, v1, v2] := by cases args; simp_all
  obtain ⟨rfl, rfl⟩ := trodVars_none hV
  have k0 := h0
  have lt0 : ∀ x ∈ p0, x.block < W.heap.size := by obtain ⟨m, hm⟩ := k0; exact DataW.trod_lt m _ _ _ hm
  obtain ⟨cs0, rfl, hcs0, hf0⟩ := open_agg Try.underlying25 (by kernel_rfl) (by kernel_rfl) (hval 0 25 v0 rfl rfl) h0
  obtain ⟨_, _, _, e0_0, q0_0⟩ := hf0 0 _ rfl
  obtain ⟨a0_0, n0_0, c0_0, z0_0, rfl, m0_0, h0_0, f0_0⟩ := openASS q0_0
  obtain ⟨_, _, _, e0_1, q0_1⟩ := hf0 1 _ rfl
  obtain ⟨a0_1, n0_1, c0_1, z0_1, rfl, m0_1, h0_1, f0_1⟩ := openLinkS q0_1
  obtain rfl : cs0 = #[.slice a0_0 n0_0 c0_0, .slice a0_1 n0_1 c0_1] := arr_of [.slice a0_0 n0_0 c0_0, .slice a0_1 n0_1 c0_1] hcs0 (fun j hj => by match j, hj with | 0, _ => exact e0_0 | 1, _ => exact e0_1)
  obtain ⟨a1, rfl, rfl, rfl, w1⟩ := open_int Try.underlying3 (hval 1 3 v1 rfl rfl) h1
  obtain ⟨a2, len2, cap2, rfl⟩ := okWide_slice Try.underlying51 (hval 2 51 v2 rfl rfl)
  have k2 := h2
  have lt2 : ∀ x ∈ p2, x.block < W.heap.size := by obtain ⟨m, hm⟩ := k2; exact DataW.trod_lt m _ _ _ hm
  obtain ⟨z2, w2⟩ : ∃ zs, IsRow .i64 W a2 len2 cap2 zs := by
    obtain ⟨fuel, hf⟩ := h2
    rcases open_ints Try.underlying51 Try.underlying3 (by kernel_rfl) hf with ⟨hcs, _⟩ | ⟨x, l, c, zs, hcs, _, hl, hm, hz, _, hcell, hwz⟩
    · simp [Value.cells] at hcs
      obtain ⟨rfl, rfl, rfl⟩ := hcs
      exact ⟨[], .inl ⟨rfl, rfl, rfl, rfl⟩⟩
    · simp [Value.cells] at hcs
      obtain ⟨rfl, rfl, rfl⟩ := hcs
      exact ⟨zs, .inr ⟨_, rfl, hl, hm, by simpa using hz, hcell, hwz⟩⟩
  clear hA0 hval0
  refine (walk a0_0 n0_0 c0_0 z0_0 a0_1 n0_1 c0_1 z0_1 a1 a2 len2 cap2 (z2.take len2) W h0_0 m0_0 f0_0 h0_1 m0_1 f0_1 w1 (hasR_int.2 w2.has) (isrow_len w2) w2.fits).mono fun e W' ⟨he, bel⟩ => ?_
  subst he
  exact ⟨_, rfl, _, _, _, [], _, [], hW', trodAll_mk1 (shut_bool Try.underlying4 _), (trodAll_cons_mk (Below.trod laidOut (by kernel_rfl) (of_decide_eq_true (by kernel_rfl)) k0 bel lt0) (trodAll_cons_mk (shut_int Try.underlying3 w1) (trodAll_cons_mk (Below.trod laidOut (by kernel_rfl) (of_decide_eq_true (by kernel_rfl)) k2 bel lt2) trodAll_mk0))), rfl, bel.frame _, fun h => by cases h⟩

theorem over : Rows.fnExactSignAsRow.holds Try.pinned (OpenSpec.ofChange Rows.fnExactSignAsSpec) :=
  OpenClaim.holds_of_wide 6 Try.f6 rfl rfl rfl rfl rfl rfl rfl ⟨rfl, rfl, rfl, rfl, rfl⟩ rfl rfl rfl rfl rfl (by kernel_rfl) Try.func6 (by kernel_rfl)
    (of_decide_eq_true (by kernel_rfl)) (by unfold Func.isWrapper; first | (rw [if_pos (by decide +kernel)]; kernel_rfl) | (rw [if_neg (by decide +kernel)]; exact ⟨rfl, rfl⟩))
    (fun os started H enc _ => lifted os started H enc)

theorem proved : Rows.FnExactSignAsSaid := over
#print axioms proved
end Go.Proofs.Ytpkgpaeecjlnoaa.fnExactSignAs
