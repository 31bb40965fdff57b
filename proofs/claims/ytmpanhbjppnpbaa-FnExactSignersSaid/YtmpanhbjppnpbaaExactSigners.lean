
/- For every topology, every list of signatures, every set and every list of integers, the law on Signers returns true; no further condition. -/
import Derived.Test.YtmpanhbjppnpbaaRows
import Derived.WalkKit
import Derived.ProofKit
import Derived.OpenShut
import Derived.ShutString
import Derived.ChangeOld
import Derived.Below
import Derived.Test.YtmpanhbjppnpbaaOAS
import Derived.Test.YtmpanhbjppnpbaaZAS
import Derived.Test.YtmpanhbjppnpbaaOLink
import Derived.Test.YtmpanhbjppnpbaaZLink
import Derived.Test.YtmpanhbjppnpbaaOSignature
import Derived.Test.YtmpanhbjppnpbaaZSignature
import Derived.Test.YtmpanhbjppnpbaaStruct
import Derived.Deep.RegionHeld3
import Derived.Test.YtmpanhbjppnpbaaSigners
import Derived.Test.YtmpanhbjppnpbaaIntR
namespace Go.Proofs.Ytmpanhbjppnpbaa.fnExactSigners
open Go.ChangeShapes Go.WideShapes Go.ChangeAt Go.RowKit
open Go.ChangeMaps (open_string shut_string)
set_option linter.unusedVariables false

theorem own : ownKnob Try.prog.godebug = none := by kernel_rfl
theorem laidOut : laidOutB Try.prog = true := by kernel_rfl

set_option maxRecDepth 100000 in
set_option maxHeartbeats 4000000 in
theorem walk (a0_0 : Option Addr) (n0_0 c0_0 : Nat) (z0_0 : List TAS) (a0_1 : Option Addr) (n0_1 c0_1 : Nat) (z0_1 : List TLink) (a1_ : Option Addr) (n1_ c1_ : Nat) (z1_ : List TSignature) (a2 : Int) (a3_ : Option Addr) (n3_ c3_ : Nat) (z3_ : List Int) (w : World) (h0_0 : HasAS w w.heap.size a0_0 n0_0 z0_0) (m0_0 : n0_0 ≤ 9223372036854775807) (f0_0 : ∀ x ∈ z0_0, TAS.fits x) (h0_1 : HasLink w w.heap.size a0_1 n0_1 z0_1) (m0_1 : n0_1 ≤ 9223372036854775807) (f0_1 : ∀ x ∈ z0_1, TLink.fits x) (h1_ : HasSignature w w.heap.size a1_ n1_ z1_) (m1_ : n1_ ≤ 9223372036854775807) (f1_ : ∀ x ∈ z1_, TSignature.fits x) (w2 : (Lit.int .i64 a2).wf = true) (h3_ : HasInt w w.heap.size a3_ n3_ z3_) (m3_ : n3_ ≤ 9223372036854775807) (f3_ : ∀ z ∈ z3_, (Lit.int .i64 z).wf = true) :
    Calls Try.prog 6 #[.agg #[.slice a0_0 n0_0 c0_0, .slice a0_1 n0_1 c0_1], .slice a1_ n1_ c1_, .int .i64 a2, .slice a3_ n3_ c3_] w fun e w' => e = .returned (.bool true) ∧ Below w.heap.size w w' := by
  by_cases hbig3 : 1048576 < n3_
  · have hb3 : (1048576 : Int) < (n3_ : Int) := by omega
    go_enter Try.func6, Try.ntmps6
    go_wp2_with fail
    have M0 : Mk0 w (w.alloc (Obj.cells #[Value.slice a0_0 n0_0 c0_0, Value.slice a0_1 n0_1 c0_1] 25)) := (Mk.alloc w _)
    have k0_0 : (w.alloc (Obj.cells #[Value.slice a0_0 n0_0 c0_0, Value.slice a0_1 n0_1 c0_1] 25)).cell? ⟨w.heap.size, 0, none⟩ = some (.slice a0_0 n0_0 c0_0) := by simp [go_sem]
    have k0_1 : (w.alloc (Obj.cells #[Value.slice a0_0 n0_0 c0_0, Value.slice a0_1 n0_1 c0_1] 25)).cell? ⟨w.heap.size, 1, none⟩ = some (.slice a0_1 n0_1 c0_1) := by simp [go_sem]
    go_ret
    exact ⟨rfl, M0.below0⟩
  have hn3 : n3_ ≤ 1048576 := by omega
  have hp3 : (n3_ : Int) ≤ 1048576 := by omega
  clear hbig3
  by_cases hbig0 : (1048576 : Int) < (n0_0 : Int) + (n0_1 : Int)
  · go_enter Try.func6, Try.ntmps6
    go_wp2_with fail
    have M0 : Mk0 w (w.alloc (Obj.cells #[Value.slice a0_0 n0_0 c0_0, Value.slice a0_1 n0_1 c0_1] 25)) := (Mk.alloc w _)
    have k0_0 : (w.alloc (Obj.cells #[Value.slice a0_0 n0_0 c0_0, Value.slice a0_1 n0_1 c0_1] 25)).cell? ⟨w.heap.size, 0, none⟩ = some (.slice a0_0 n0_0 c0_0) := by simp [go_sem]
    have k0_1 : (w.alloc (Obj.cells #[Value.slice a0_0 n0_0 c0_0, Value.slice a0_1 n0_1 c0_1] 25)).cell? ⟨w.heap.size, 1, none⟩ = some (.slice a0_1 n0_1 c0_1) := by simp [go_sem]
    refine (szTopologyB _ _ _ _ _ _ _ _ (by omega) (by omega) (by omega) m0_0 m0_1).mono ?_
    rintro e w1 ⟨rfl, m1⟩
    go_wp2_with fail
    go_ret
    exact ⟨rfl, (M0.trans m1).below0⟩
  have hn0 : (n0_0 : Int) + (n0_1 : Int) ≤ (1048576 : Int) := by omega
  clear hbig0
  by_cases hbig1 : (1048576 - n0_0 - n0_1 : Int) < (n1_ : Int)
  · go_enter Try.func6, Try.ntmps6
    go_wp2_with fail
    have M0 : Mk0 w (w.alloc (Obj.cells #[Value.slice a0_0 n0_0 c0_0, Value.slice a0_1 n0_1 c0_1] 25)) := (Mk.alloc w _)
    have k0_0 : (w.alloc (Obj.cells #[Value.slice a0_0 n0_0 c0_0, Value.slice a0_1 n0_1 c0_1] 25)).cell? ⟨w.heap.size, 0, none⟩ = some (.slice a0_0 n0_0 c0_0) := by simp [go_sem]
    have k0_1 : (w.alloc (Obj.cells #[Value.slice a0_0 n0_0 c0_0, Value.slice a0_1 n0_1 c0_1] 25)).cell? ⟨w.heap.size, 1, none⟩ = some (.slice a0_1 n0_1 c0_1) := by simp [go_sem]
    refine (szTopologyC _ _ _ _ _ _ _ _ (by omega) (by omega) (by omega)).mono ?_
    rintro e w1 ⟨l1, hl1, rfl, m1⟩
    have M1 := M0.trans m1
    replace k0_0 := m1.cellAt k0_0
    replace k0_1 := m1.cellAt k0_1
    have z1 := m1.size
    simp only [World.size_alloc] at z1
    go_wp2_with fail
    refine (szSignatureSB _ _ _ _ _ (by omega) (by omega) (by omega) m1_).mono ?_
    rintro e w' ⟨rfl, rfl⟩
    go_wp2_with fail
    go_ret
    exact ⟨rfl, M1.below0⟩
  have hn1 : (n1_ : Int) ≤ (1048576 - n0_0 - n0_1 : Int) := by omega
  clear hbig1
  go_enter Try.func6, Try.ntmps6
  go_wp2_with fail
  have M0 : Mk0 w (w.alloc (Obj.cells #[Value.slice a0_0 n0_0 c0_0, Value.slice a0_1 n0_1 c0_1] 25)) := (Mk.alloc w _)
  have k0_0 : (w.alloc (Obj.cells #[Value.slice a0_0 n0_0 c0_0, Value.slice a0_1 n0_1 c0_1] 25)).cell? ⟨w.heap.size, 0, none⟩ = some (.slice a0_0 n0_0 c0_0) := by simp [go_sem]
  have k0_1 : (w.alloc (Obj.cells #[Value.slice a0_0 n0_0 c0_0, Value.slice a0_1 n0_1 c0_1] 25)).cell? ⟨w.heap.size, 1, none⟩ = some (.slice a0_1 n0_1 c0_1) := by simp [go_sem]
  refine (szTopologyC _ _ _ _ _ _ _ _ (by omega) (by omega) (by omega)).mono ?_
  rintro e w1 ⟨l1, hl1, rfl, m1⟩
  have M1 := M0.trans m1
  replace k0_0 := m1.cellAt k0_0
  replace k0_1 := m1.cellAt k0_1
  have z1 := m1.size
  simp only [World.size_alloc] at z1
  go_wp2_with fail
  refine (szSignatureSC _ _ _ _ _ (by omega) (by omega) (by omega)).mono ?_
  rintro e w' ⟨rfl, rfl⟩
  go_wp2_with fail
  refine (toTopologyC _ _ _ _ _ _ _ _ w.heap.size _ (h0_0.mk M1 (Nat.le_refl _) (.inr (Nat.le_refl _))) (h0_1.mk M1 (Nat.le_refl _) (.inr (Nat.le_refl _))) (by omega) (by omega) (by omega)).mono ?_
  rintro e w2 ⟨b1, b2, d3, rfl, o4, o5, g6, g7, m2⟩
  have M2 := M1.trans m2
  have z2 := m2.size
  replace k0_0 := m2.cellAt k0_0
  replace k0_1 := m2.cellAt k0_1
  have h8 := o4.has.mono (B' := w2.heap.size) (by omega)
  clear o4
  have h9 := o5.has.mono (B' := w2.heap.size) (by omega)
  clear o5
  go_wp2_with fail
  refine (toSignatureS _ _ _ w.heap.size _ _ (h1_.mk M2 (Nat.le_refl _) (.inr (Nat.le_refl _))) (by omega) (by omega)).mono ?_
  rintro e w3 ⟨b10, rfl, o11, m3⟩
  have M3 := M2.trans m3
  have z3 := m3.size
  replace k0_0 := m3.cellAt k0_0
  replace k0_1 := m3.cellAt k0_1
  replace h8 := h8.mk m3 (by omega) (.inr (Nat.le_refl _))
  replace h9 := h9.mk m3 (by omega) (.inr (Nat.le_refl _))
  have h12 := o11.has.mono (B' := w3.heap.size) (by omega)
  clear o11
  go_wp2_with fail
  refine (toIntS _ _ _ w.heap.size _ _ (h3_.mk M3 (Nat.le_refl _) (.inr (Nat.le_refl _))) (by omega) (by omega)).mono ?_
  rintro e w4 ⟨b13, rfl, o14, m4⟩
  have M4 := M3.trans m4
  have z4 := m4.size
  replace k0_0 := m4.cellAt k0_0
  replace k0_1 := m4.cellAt k0_1
  replace h8 := h8.mk m4 (by omega) (.inr (Nat.le_refl _))
  replace h9 := h9.mk m4 (by omega) (.inr (Nat.le_refl _))
  replace h12 := h12.mk m4 (by omega) (.inr (Nat.le_refl _))
  have h15 := o14.has.mono (B' := w4.heap.size) (by omega)
  clear o14
  go_wp2_with fail
  have hN0_0 : n0_0 ≤ 1048576 := by omega
  have hN0_1 : n0_1 ≤ 1048576 := by omega
  have hN1_ : n1_ ≤ 1048576 := by omega
  have hN3_ : n3_ ≤ 1048576 := by omega
  refine (specSigners _ _ _ _ _ _ _ z0_0 _ _ _ _ z1_ a2 _ _ _ _ z3_ _ h8 (by omega) hN0_0 f0_0 h12 (by omega) hN1_ (hasR_int.1 h15) (by omega) hN3_ (fun h => by cases h) f3_).mono ?_
  rintro e w5 ⟨rfl, m5⟩
  have M5 := M4.trans m5
  have z5 := m5.size
  replace k0_0 := m5.cellAt k0_0
  replace k0_1 := m5.cellAt k0_1
  replace h8 := h8.mk m5 (by omega) (.inr (Nat.le_refl _))
  replace h9 := h9.mk m5 (by omega) (.inr (Nat.le_refl _))
  replace h12 := h12.mk m5 (by omega) (.inr (Nat.le_refl _))
  replace h15 := h15.mk m5 (by omega) (.inr (Nat.le_refl _))
  go_wp2_with fail
  refine (toTopologyC _ _ _ _ _ _ _ _ w.heap.size _ (h0_0.mk M5 (Nat.le_refl _) (.inr (Nat.le_refl _))) (h0_1.mk M5 (Nat.le_refl _) (.inr (Nat.le_refl _))) (by omega) (by omega) (by omega)).mono ?_
  rintro e w6 ⟨b16, b17, d18, rfl, o19, o20, g21, g22, m6⟩
  have M6 := M5.trans m6
  have z6 := m6.size
  replace k0_0 := m6.cellAt k0_0
  replace k0_1 := m6.cellAt k0_1
  have h23 := o19.has.mono (B' := w6.heap.size) (by omega)
  clear o19
  have h24 := o20.has.mono (B' := w6.heap.size) (by omega)
  clear o20
  go_wp2_with fail
  have xx0_0 : (w6.alloc (Obj.cells #[Value.slice (some ⟨b16, 0, none⟩) n0_0 n0_0, Value.slice (some ⟨b17, 0, none⟩) n0_1 n0_1] 35)).cell? ⟨w6.heap.size, 0, none⟩ = some (.slice (some ⟨b16, 0, none⟩) n0_0 n0_0) := by rw [World.cell?_alloc_at _ _ _ _ rfl]; rfl
  have xx0_1 : (w6.alloc (Obj.cells #[Value.slice (some ⟨b16, 0, none⟩) n0_0 n0_0, Value.slice (some ⟨b17, 0, none⟩) n0_1 n0_1] 35)).cell? ⟨w6.heap.size, 1, none⟩ = some (.slice (some ⟨b17, 0, none⟩) n0_1 n0_1) := by rw [World.cell?_alloc_at _ _ _ _ rfl]; rfl
  have m7 := Mk.alloc w6 (Obj.cells #[Value.slice (some ⟨b16, 0, none⟩) n0_0 n0_0, Value.slice (some ⟨b17, 0, none⟩) n0_1 n0_1] 35)
  replace k0_0 := m7.cellAt k0_0
  replace k0_1 := m7.cellAt k0_1
  replace h23 := h23.mk m7 (by omega) (.inr (Nat.le_refl _))
  replace h24 := h24.mk m7 (by omega) (.inr (Nat.le_refl _))
  have M7 := M6.trans m7
  have z7 := m7.size
  have zz7 : w6.heap.size < (w6.alloc (Obj.cells #[Value.slice (some ⟨b16, 0, none⟩) n0_0 n0_0, Value.slice (some ⟨b17, 0, none⟩) n0_1 n0_1] 35)).heap.size := by rw [World.size_alloc]; omega
  generalize (w6.alloc (Obj.cells #[Value.slice (some ⟨b16, 0, none⟩) n0_0 n0_0, Value.slice (some ⟨b17, 0, none⟩) n0_1 n0_1] 35)) = w7 at *
  refine (toSignatureS _ _ _ w.heap.size _ _ (h1_.mk M7 (Nat.le_refl _) (.inr (Nat.le_refl _))) (by omega) (by omega)).mono ?_
  rintro e w8 ⟨b25, rfl, o26, m8⟩
  have M8 := M7.trans m8
  have z8 := m8.size
  replace k0_0 := m8.cellAt k0_0
  replace k0_1 := m8.cellAt k0_1
  replace xx0_0 := m8.cellAt xx0_0
  replace xx0_1 := m8.cellAt xx0_1
  replace h23 := h23.mk m8 (by omega) (.inr (Nat.le_refl _))
  replace h24 := h24.mk m8 (by omega) (.inr (Nat.le_refl _))
  have h27 := o26.has.mono (B' := w8.heap.size) (by omega)
  clear o26
  go_wp2_with fail
  refine (toIntS _ _ _ w.heap.size _ _ (h3_.mk M8 (Nat.le_refl _) (.inr (Nat.le_refl _))) (by omega) (by omega)).mono ?_
  rintro e w9 ⟨b28, rfl, o29, m9⟩
  have M9 := M8.trans m9
  have z9 := m9.size
  replace k0_0 := m9.cellAt k0_0
  replace k0_1 := m9.cellAt k0_1
  replace xx0_0 := m9.cellAt xx0_0
  replace xx0_1 := m9.cellAt xx0_1
  replace h23 := h23.mk m9 (by omega) (.inr (Nat.le_refl _))
  replace h24 := h24.mk m9 (by omega) (.inr (Nat.le_refl _))
  replace h27 := h27.mk m9 (by omega) (.inr (Nat.le_refl _))
  have h30 := o29.has.mono (B' := w9.heap.size) (by omega)
  clear o29
  go_wp2_with fail
  have hN0_0 : n0_0 ≤ 1048576 := by omega
  have hN0_1 : n0_1 ≤ 1048576 := by omega
  have hN1_ : n1_ ≤ 1048576 := by omega
  have hN3_ : n3_ ≤ 1048576 := by omega
  refine (implSigners _ _ _ _ _ _ _ z0_0 _ _ _ _ z1_ a2 _ _ _ _ z3_ _ h23 (by omega) hN0_0 f0_0 h27 (by omega) hN1_ (hasR_int.1 h30) (by omega) hN3_ (fun h => by cases h) f3_).mono ?_
  rintro e w10 ⟨rfl, m10⟩
  have M10 := M9.trans m10
  have z10 := m10.size
  replace k0_0 := m10.cellAt k0_0
  replace k0_1 := m10.cellAt k0_1
  replace xx0_0 := m10.cellAt xx0_0
  replace xx0_1 := m10.cellAt xx0_1
  replace h23 := h23.mk m10 (by omega) (.inr (Nat.le_refl _))
  replace h24 := h24.mk m10 (by omega) (.inr (Nat.le_refl _))
  replace h27 := h27.mk m10 (by omega) (.inr (Nat.le_refl _))
  replace h30 := h30.mk m10 (by omega) (.inr (Nat.le_refl _))
  go_wp2_with fail
  have e31 : ∀ w', Mk0 w10 w' → HasAS w' w6.heap.size (some ⟨b16, 0, none⟩) n0_0 z0_0 := fun w' m => h23.mk m (by omega) (.inr (Nat.le_refl _))
  have e32 : ∀ w', Mk0 w10 w' → HasLink w' w6.heap.size (some ⟨b17, 0, none⟩) n0_1 z0_1 := fun w' m => h24.mk m (by omega) (.inr (Nat.le_refl _))
  have e33 : ∀ w', Mk0 w10 w' → w6.heap.size ≤ w'.heap.size := fun w' m => Nat.le_trans (by omega) m.size
  have e34 : ∀ w', Mk0 w10 w' → HasAS w' w.heap.size a0_0 n0_0 z0_0 := fun w' m => h0_0.mk (M10.trans m) (Nat.le_refl _) (.inr (Nat.le_refl _))
  have e35 : ∀ w', Mk0 w10 w' → HasLink w' w.heap.size a0_1 n0_1 z0_1 := fun w' m => h0_1.mk (M10.trans m) (Nat.le_refl _) (.inr (Nat.le_refl _))
  have hN0_0 : n0_0 ≤ 1048576 := by omega
  have hN0_1 : n0_1 ≤ 1048576 := by omega
  go_region_held3 (fun w' => Mk0 w10 w' ∧ w'.cell? ⟨w.heap.size, 0, none⟩ = some (.slice a0_0 n0_0 c0_0) ∧ w'.cell? ⟨w.heap.size, 1, none⟩ = some (.slice a0_1 n0_1 c0_1) ∧ w'.cell? ⟨w6.heap.size, 0, none⟩ = some (.slice (some ⟨b16, 0, none⟩) n0_0 n0_0) ∧ w'.cell? ⟨w6.heap.size, 1, none⟩ = some (.slice (some ⟨b17, 0, none⟩) n0_1 n0_1)) (first | exact ⟨Mk.drew1 _, k0_0, k0_1, xx0_0, xx0_1⟩ | (obtain ⟨s0, s1, s2, s3, s4⟩ := ‹Mk0 w10 _ ∧ _›; exact ⟨s0.trans mm, mm.cellAt s1, mm.cellAt s2, mm.cellAt s3, mm.cellAt s4⟩)) (first | (go_at_call 11; refine (toTopologyC _ _ _ _ _ _ _ _ w.heap.size _ (e34 _ (‹Mk0 w10 _ ∧ _›).1) (e35 _ (‹Mk0 w10 _ ∧ _›).1) (M10.trans (‹Mk0 w10 _ ∧ _›).1).size hN0_0 hN0_1).mono ?_; rintro e wa ⟨bb0, bb1, dd0, rfl, oo0, oo1, gg0, gg1, mm⟩) | (go_at_call 14; refine (eqTopologyC _ _ _ _ _ _ _ _ _ _ _ _ _ _ _ (e31 _ (‹Mk0 w10 _ ∧ _›).1) (e32 _ (‹Mk0 w10 _ ∧ _›).1) (oo0.has.mono gg1) (oo1.has.mono (Nat.le_refl _)) (e33 _ (‹Mk0 w10 _ ∧ _›).1) (Nat.le_refl _) hN0_0 hN0_1).mono ?_; rintro e wb11 ⟨rfl, mm⟩))
  obtain ⟨m11, k0_0, k0_1, xx0_0, xx0_1⟩ := ‹Mk0 w10 _ ∧ _›
  clear e31 e32 e33 e34 e35 hN0_0 hN0_1
  refine ‹∀ (a : Act) (w : World), _ → _› _ _ ?_
  have M11 := M10.trans m11
  have z11 := m11.size
  replace h23 := h23.mk m11 (by omega) (.inr (Nat.le_refl _))
  replace h24 := h24.mk m11 (by omega) (.inr (Nat.le_refl _))
  replace h27 := h27.mk m11 (by omega) (.inr (Nat.le_refl _))
  replace h30 := h30.mk m11 (by omega) (.inr (Nat.le_refl _))
  go_wp2_with fail
  refine (toSignatureS _ _ _ w.heap.size _ _ (h1_.mk M11 (Nat.le_refl _) (.inr (Nat.le_refl _))) (by omega) (by omega)).mono ?_
  rintro e w12 ⟨b36, rfl, o37, m12⟩
  have M12 := M11.trans m12
  have z12 := m12.size
  replace k0_0 := m12.cellAt k0_0
  replace k0_1 := m12.cellAt k0_1
  replace xx0_0 := m12.cellAt xx0_0
  replace xx0_1 := m12.cellAt xx0_1
  replace h27 := h27.mk m12 (by omega) (.inr (Nat.le_refl _))
  replace h30 := h30.mk m12 (by omega) (.inr (Nat.le_refl _))
  have h38 := o37.has.mono (B' := w12.heap.size) (by omega)
  clear o37
  go_wp2_with fail
  refine (eqSignatureS _ _ _ _ _ _ _ _ _ h27 h38 (by omega) (by omega) (by omega)).mono ?_
  rintro e w13 ⟨rfl, m13⟩
  have M13 := M12.trans m13
  have z13 := m13.size
  replace k0_0 := m13.cellAt k0_0
  replace k0_1 := m13.cellAt k0_1
  replace xx0_0 := m13.cellAt xx0_0
  replace xx0_1 := m13.cellAt xx0_1
  replace h27 := h27.mk m13 (by omega) (.inr (Nat.le_refl _))
  replace h30 := h30.mk m13 (by omega) (.inr (Nat.le_refl _))
  replace h38 := h38.mk m13 (by omega) (.inr (Nat.le_refl _))
  go_wp2_with fail
  refine (toIntS _ _ _ w.heap.size _ _ (h3_.mk M13 (Nat.le_refl _) (.inr (Nat.le_refl _))) (by omega) (by omega)).mono ?_
  rintro e w14 ⟨b39, rfl, o40, m14⟩
  have M14 := M13.trans m14
  have z14 := m14.size
  replace k0_0 := m14.cellAt k0_0
  replace k0_1 := m14.cellAt k0_1
  replace xx0_0 := m14.cellAt xx0_0
  replace xx0_1 := m14.cellAt xx0_1
  replace h30 := h30.mk m14 (by omega) (.inr (Nat.le_refl _))
  have h41 := o40.has.mono (B' := w14.heap.size) (by omega)
  clear o40
  go_wp2_with fail
  refine (eqIntS _ _ _ _ _ _ _ _ _ h30 h41 (by omega) (by omega) (by omega)).mono ?_
  rintro e w15 ⟨rfl, m15⟩
  have M15 := M14.trans m15
  have z15 := m15.size
  replace k0_0 := m15.cellAt k0_0
  replace k0_1 := m15.cellAt k0_1
  replace xx0_0 := m15.cellAt xx0_0
  replace xx0_1 := m15.cellAt xx0_1
  replace h30 := h30.mk m15 (by omega) (.inr (Nat.le_refl _))
  replace h41 := h41.mk m15 (by omega) (.inr (Nat.le_refl _))
  go_wp2_with fail
  go_ret
  exact ⟨rfl, M15.below0⟩

set_option maxRecDepth 100000 in
theorem lifted (os : Os) (started : os.Started) (H : Type) (enc : TypeId × Value → H) :
    ReturnsInHanded {} Try.checked os 6 .any (Rows.fnExactSignersSpec.pre6 enc Try.prog Try.f6 Rows.fnExactSignersRow.domain false) (Rows.fnExactSignersSpec.post enc Try.prog Try.f6 false true false false) := by
  refine returnsInHanded_of_change (C := Try.checked) own started (by kernel_rfl) Try.func6
    (ChangeSpec.witness6 (enc := enc) (C := Try.checked) false ⟨#[], #[.agg #[.slice none 0 0, .slice none 0 0], .slice none 0 0, .int .i64 0, .slice none 0 0], []⟩ 8 (by kernel_rfl) (by kernel_rfl) (by kernel_rfl) (by kernel_rfl)) ?_
  intro W base args ds gs before hval0 hW hcnd _
  have hval : ∀ (j : Nat) t v, Try.f6.params[j]? = some t → args[j]? = some v → Value.okWide Try.prog W .any base t v := hval0
  have hW' := hW
  obtain ⟨p, q, hA0, hV, rfl, hfz, hnd⟩ := hW
  have hA : DataW.TrodAll enc Try.prog W 0 (fun _ => true) true Try.f6.params.toList args.toList ds p := hA0
  rw [Try.params6] at hA hval
  obtain ⟨v0, vs0, d0, ds0, p0, q0, hargs, rfl, rfl, h0, r0⟩ := trodAll_cons hA
  obtain ⟨v1, vs1, d1, ds1, p1, q1, rfl, rfl, rfl, h1, r1⟩ := trodAll_cons r0
  obtain ⟨v2, vs2, d2, ds2, p2, q2, rfl, rfl, rfl, h2, r2⟩ := trodAll_cons r1
  obtain ⟨v3, vs3, d3, ds3, p3, q3, rfl, rfl, rfl, h3, r3⟩ := trodAll_cons r2
  obtain ⟨rfl, rfl, rfl⟩ := trodAll_nil r3
  obtain rfl : args = #[v0, v1, v2, v3] := by cases args; simp_all
  obtain ⟨rfl, rfl⟩ := trodVars_none hV
  have k0 := h0
  have lt0 : ∀ x ∈ p0, x.block < W.heap.size := by obtain ⟨m, hm⟩ := k0; exact DataW.trod_lt m _ _ _ hm
  obtain ⟨cs0, rfl, hcs0, hf0⟩ := open_agg Try.underlying25 (by kernel_rfl) (by kernel_rfl) (hval 0 25 v0 rfl rfl) h0
  obtain ⟨_, _, _, e0_0, q0_0⟩ := hf0 0 _ rfl
  obtain ⟨a0_0, n0_0, c0_0, z0_0, rfl, m0_0, h0_0, f0_0⟩ := openASS q0_0
  obtain ⟨_, _, _, e0_1, q0_1⟩ := hf0 1 _ rfl
  obtain ⟨a0_1, n0_1, c0_1, z0_1, rfl, m0_1, h0_1, f0_1⟩ := openLinkS q0_1
  obtain rfl : cs0 = #[.slice a0_0 n0_0 c0_0, .slice a0_1 n0_1 c0_1] := arr_of [.slice a0_0 n0_0 c0_0, .slice a0_1 n0_1 c0_1] hcs0 (fun j hj => by match j, hj with | 0, _ => exact e0_0 | 1, _ => exact e0_1)
  have k1 := h1
  have lt1 : ∀ x ∈ p1, x.block < W.heap.size := by obtain ⟨m, hm⟩ := k1; exact DataW.trod_lt m _ _ _ hm
  obtain ⟨b1, l1, g1, rfl⟩ := okWide_slice Try.underlying59 (hval 1 59 v1 rfl rfl)
  obtain ⟨fu1, hfu1⟩ := h1
  rw [show (Value.slice b1 l1 g1).cells.toList = [.slice b1 l1 g1] from rfl] at hfu1
  obtain ⟨a1, n1, c1, z1, hv1, m1, h1, f1⟩ := openSignatureS hfu1
  injection hv1 with e1 e2 e3
  subst e1 e2 e3
  obtain ⟨a2, rfl, rfl, rfl, w2⟩ := open_int Try.underlying3 (hval 2 3 v2 rfl rfl) h2
  obtain ⟨a3, len3, cap3, rfl⟩ := okWide_slice Try.underlying52 (hval 3 52 v3 rfl rfl)
  have k3 := h3
  have lt3 : ∀ x ∈ p3, x.block < W.heap.size := by obtain ⟨m, hm⟩ := k3; exact DataW.trod_lt m _ _ _ hm
  obtain ⟨z3, w3⟩ : ∃ zs, IsRow .i64 W a3 len3 cap3 zs := by
    obtain ⟨fuel, hf⟩ := h3
    rcases open_ints Try.underlying52 Try.underlying3 (by kernel_rfl) hf with ⟨hcs, _⟩ | ⟨x, l, c, zs, hcs, _, hl, hm, hz, _, hcell, hwz⟩
    · simp [Value.cells] at hcs
      obtain ⟨rfl, rfl, rfl⟩ := hcs
      exact ⟨[], .inl ⟨rfl, rfl, rfl, rfl⟩⟩
    · simp [Value.cells] at hcs
      obtain ⟨rfl, rfl, rfl⟩ := hcs
      exact ⟨zs, .inr ⟨_, rfl, hl, hm, by simpa using hz, hcell, hwz⟩⟩
  clear hA0 hval0
  refine (walk a0_0 n0_0 c0_0 z0_0 a0_1 n0_1 c0_1 z0_1 b1 l1 g1 z1 a2 a3 len3 cap3 (z3.take len3) W h0_0 m0_0 f0_0 h0_1 m0_1 f0_1 h1 m1 f1 w2 (hasR_int.2 w3.has) (isrow_len w3) w3.fits).mono fun e W' ⟨he, bel⟩ => ?_
  subst he
  exact ⟨_, rfl, _, _, _, [], _, [], hW', trodAll_mk1 (shut_bool Try.underlying4 _), (trodAll_cons_mk (Below.trod laidOut (by kernel_rfl) (of_decide_eq_true (by kernel_rfl)) k0 bel lt0) (trodAll_cons_mk (Below.trod laidOut (by kernel_rfl) (of_decide_eq_true (by kernel_rfl)) k1 bel lt1) (trodAll_cons_mk (shut_int Try.underlying3 w2) (trodAll_cons_mk (Below.trod laidOut (by kernel_rfl) (of_decide_eq_true (by kernel_rfl)) k3 bel lt3) trodAll_mk0)))), rfl, bel.frame _, fun h => by cases h⟩

theorem over : Rows.fnExactSignersRow.holds Try.pinned (OpenSpec.ofChange Rows.fnExactSignersSpec) :=
  OpenClaim.holds_of_wide 6 Try.f6 rfl rfl rfl rfl rfl rfl rfl ⟨rfl, rfl, rfl, rfl, rfl⟩ rfl rfl rfl rfl rfl (by kernel_rfl) Try.func6 (by kernel_rfl)
    (of_decide_eq_true (by kernel_rfl)) (by unfold Func.isWrapper; first | (rw [if_pos (by decide +kernel)]; kernel_rfl) | (rw [if_neg (by decide +kernel)]; exact ⟨rfl, rfl⟩))
    (fun os started H enc _ => lifted os started H enc)

theorem proved : Rows.FnExactSignersSaid := over
#print axioms proved
end Go.Proofs.Ytmpanhbjppnpbaa.fnExactSigners
