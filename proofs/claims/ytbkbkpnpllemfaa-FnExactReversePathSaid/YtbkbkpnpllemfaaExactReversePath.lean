
/- For every path, the law on ReversePath returns true; no further condition. -/
import Derived.Test.YtbkbkpnpllemfaaRows
import Derived.WalkKit
import Derived.ProofKit
import Derived.OpenShut
import Derived.ShutString
import Derived.ChangeOld
import Derived.Below
import Derived.Test.YtbkbkpnpllemfaaOPathPart
import Derived.Test.YtbkbkpnpllemfaaStruct
import Derived.Deep.RegionHeld3
import Derived.Test.YtbkbkpnpllemfaaRevPath
import Derived.Test.YtbkbkpnpllemfaaKPath
import Derived.Test.YtbkbkpnpllemfaaMnPath
namespace Go.Proofs.Ytbkbkpnpllemfaa.fnExactReversePath
open Go.ChangeShapes Go.WideShapes Go.ChangeAt Go.RowKit
open Go.ChangeMaps (open_string shut_string)
set_option linter.unusedVariables false

theorem own : ownKnob Try.prog.godebug = none := by kernel_rfl
theorem laidOut : laidOutB Try.prog = true := by kernel_rfl

set_option maxRecDepth 100000 in
set_option maxHeartbeats 4000000 in
theorem walk (a0_0 : Option Addr) (n0_0 c0_0 : Nat) (z0_0 : List TPathPart) (w : World) (h0_0 : HasPathPart w w.heap.size a0_0 n0_0 z0_0) (m0_0 : n0_0 ≤ 9223372036854775807) (f0_0 : ∀ x ∈ z0_0, TPathPart.fits x) :
    Calls Try.prog 8 #[.agg #[.slice a0_0 n0_0 c0_0]] w fun e w' => e = .returned (.bool true) ∧ Below w.heap.size w w' := by
  by_cases hbig0 : (1048576 : Int) < ((szPathPart z0_0 n0_0 : Nat) : Int)
  · go_enter Try.func8, Try.ntmps8
    go_wp2_with fail
    have M0 : Mk0 w (w.alloc (Obj.cells #[Value.slice a0_0 n0_0 c0_0] 58)) := (Mk.alloc w _)
    have k0_0 : (w.alloc (Obj.cells #[Value.slice a0_0 n0_0 c0_0] 58)).cell? ⟨w.heap.size, 0, none⟩ = some (.slice a0_0 n0_0 c0_0) := by simp [go_sem]
    refine (szPathB _ _ _ z0_0 w.heap.size _ _ (h0_0.mk M0 (Nat.le_refl _) (.inr (Nat.le_refl _))) M0.size (by omega) (by omega) (by omega) m0_0).mono ?_
    rintro e w1 ⟨rfl, m1⟩
    go_wp2_with fail
    go_ret
    exact ⟨rfl, (M0.trans m1).below0⟩
  have hn0 : ((szPathPart z0_0 n0_0 : Nat) : Int) ≤ (1048576 : Int) := by omega
  clear hbig0
  go_enter Try.func8, Try.ntmps8
  go_wp2_with fail
  have M0 : Mk0 w (w.alloc (Obj.cells #[Value.slice a0_0 n0_0 c0_0] 58)) := (Mk.alloc w _)
  have k0_0 : (w.alloc (Obj.cells #[Value.slice a0_0 n0_0 c0_0] 58)).cell? ⟨w.heap.size, 0, none⟩ = some (.slice a0_0 n0_0 c0_0) := by simp [go_sem]
  refine (szPathC _ _ _ z0_0 w.heap.size _ _ (h0_0.mk M0 (Nat.le_refl _) (.inr (Nat.le_refl _))) M0.size (by omega) (by omega) (by omega)).mono ?_
  rintro e w1 ⟨l1, hl1, rfl, m1⟩
  have M1 := M0.trans m1
  replace k0_0 := m1.cellAt k0_0
  have z1 := m1.size
  simp only [World.size_alloc] at z1
  go_wp2_with fail
  refine (toPathC _ _ _ _ w.heap.size _ (h0_0.mk M1 (Nat.le_refl _) (.inr (Nat.le_refl _))) (by omega) (by omega)).mono ?_
  rintro e w2 ⟨b1, rfl, o2, g3, m2⟩
  have M2 := M1.trans m2
  have z2 := m2.size
  replace k0_0 := m2.cellAt k0_0
  have h4 := o2.has.mono (B' := w2.heap.size) (by omega)
  clear o2
  go_wp2_with fail
  refine (specRevPath _ n0_0 _ _ z0_0 _ h4 (by omega) (by omega) (Nat.le_refl _)).mono ?_
  rintro e w3 ⟨A3, N3, C3, rfl, hc3, ow0, m3⟩
  clear hc3
  have hbw0 : szPathPart (turnL turnPt z0_0 n0_0) N3 ≤ 1048576 := by have h1 := ow0.1; rw [turnL_len] at h1; subst h1; rw [turnPt_sz]; omega
  have hbw0n : N3 ≤ 1048576 := Nat.le_trans (szPathPart_n _ _) hbw0
  have hbw0t : sumTo totPathPart (turnL turnPt z0_0 n0_0) N3 ≤ 8388608 := by have := totPathPart_sz (turnL turnPt z0_0 n0_0) N3; omega
  have M3 := M2.trans m3
  have z3 := m3.size
  replace k0_0 := m3.cellAt k0_0
  replace h4 := h4.mk m3 (by omega) (.inr (Nat.le_refl _))
  have yb5 : w.heap.size < w3.heap.size := by omega
  go_wp2_with fail
  have xw0_0 : (w3.alloc (Obj.cells #[Value.slice A3 N3 C3] 42)).cell? ⟨w3.heap.size, 0, none⟩ = some (.slice A3 N3 C3) := by rw [World.cell?_alloc_at _ _ _ _ rfl]; rfl
  have m4 := Mk.alloc w3 (Obj.cells #[Value.slice A3 N3 C3] 42)
  replace k0_0 := m4.cellAt k0_0
  replace h4 := h4.mk m4 (by omega) (.inr (Nat.le_refl _))
  replace ow0 := ow0.mk m4 (by omega) (.inr (.inr (Nat.le_refl _)))
  have M4 := M3.trans m4
  have z4 := m4.size
  have zz4 : w3.heap.size < (w3.alloc (Obj.cells #[Value.slice A3 N3 C3] 42)).heap.size := by rw [World.size_alloc]; omega
  generalize (w3.alloc (Obj.cells #[Value.slice A3 N3 C3] 42)) = w4 at *
  refine (toPathC _ _ _ _ w.heap.size _ (h0_0.mk M4 (Nat.le_refl _) (.inr (Nat.le_refl _))) (by omega) (by omega)).mono ?_
  rintro e w5 ⟨b6, rfl, o7, g8, m5⟩
  have M5 := M4.trans m5
  have z5 := m5.size
  replace k0_0 := m5.cellAt k0_0
  replace xw0_0 := m5.cellAt xw0_0
  replace ow0 := ow0.mk m5 (by omega) (.inr (.inr (Nat.le_refl _)))
  have h9 := o7.has.mono (B' := w5.heap.size) (by omega)
  go_wp2_with fail
  have xx_0 : (w5.alloc (Obj.cells #[Value.slice (some ⟨b6, 0, none⟩) n0_0 n0_0] 42)).cell? ⟨w5.heap.size, 0, none⟩ = some (.slice (some ⟨b6, 0, none⟩) n0_0 n0_0) := by rw [World.cell?_alloc_at _ _ _ _ rfl]; rfl
  have m6 := Mk.alloc w5 (Obj.cells #[Value.slice (some ⟨b6, 0, none⟩) n0_0 n0_0] 42)
  replace k0_0 := m6.cellAt k0_0
  replace xw0_0 := m6.cellAt xw0_0
  replace h9 := h9.mk m6 (by omega) (.inr (Nat.le_refl _))
  replace o7 := o7.mk m6 (by omega) (.inr (.inr (Nat.le_refl _)))
  replace ow0 := ow0.mk m6 (by omega) (.inr (.inr (Nat.le_refl _)))
  have M6 := M5.trans m6
  have z6 := m6.size
  have zz6 : w5.heap.size < (w5.alloc (Obj.cells #[Value.slice (some ⟨b6, 0, none⟩) n0_0 n0_0] 42)).heap.size := by rw [World.size_alloc]; omega
  generalize (w5.alloc (Obj.cells #[Value.slice (some ⟨b6, 0, none⟩) n0_0 n0_0] 42)) = w6 at *
  refine (implRevPath _ n0_0 _ _ z0_0 _ h9 (by omega) (by omega) (Nat.le_refl _)).mono ?_
  rintro e w7 ⟨A7, N7, C7, rfl, hc7, og0, m7⟩
  clear hc7
  obtain rfl : N3 = N7 := ow0.1.symm.trans og0.1
  have M7 := M6.trans m7
  have z7 := m7.size
  replace k0_0 := m7.cellAt k0_0
  replace xw0_0 := m7.cellAt xw0_0
  replace xx_0 := m7.cellAt xx_0
  replace h9 := h9.mk m7 (by omega) (.inr (Nat.le_refl _))
  replace o7 := o7.mk m7 (by omega) (.inr (.inr (Nat.le_refl _)))
  replace ow0 := ow0.mk m7 (by omega) (.inr (.inr (Nat.le_refl _)))
  have yb10 : w.heap.size < w7.heap.size := by omega
  have yb11 : w3.heap.size < w7.heap.size := by omega
  have yb12 : w5.heap.size < w7.heap.size := by omega
  go_wp2_with fail
  have xg0_0 : (w7.alloc (Obj.cells #[Value.slice A7 N3 C7] 42)).cell? ⟨w7.heap.size, 0, none⟩ = some (.slice A7 N3 C7) := by rw [World.cell?_alloc_at _ _ _ _ rfl]; rfl
  have m8 := Mk.alloc w7 (Obj.cells #[Value.slice A7 N3 C7] 42)
  replace k0_0 := m8.cellAt k0_0
  replace xw0_0 := m8.cellAt xw0_0
  replace xx_0 := m8.cellAt xx_0
  replace h9 := h9.mk m8 (by omega) (.inr (Nat.le_refl _))
  replace o7 := o7.mk m8 (by omega) (.inr (.inr (Nat.le_refl _)))
  replace ow0 := ow0.mk m8 (by omega) (.inr (.inr (Nat.le_refl _)))
  replace og0 := og0.mk m8 (by omega) (.inr (.inr (Nat.le_refl _)))
  have M8 := M7.trans m8
  have z8 := m8.size
  have zz8 : w7.heap.size < (w7.alloc (Obj.cells #[Value.slice A7 N3 C7] 42)).heap.size := by rw [World.size_alloc]; omega
  generalize (w7.alloc (Obj.cells #[Value.slice A7 N3 C7] 42)) = w8 at *
  refine (eqPathC _ _ _ _ _ _ _ _ _ og0.hasPathPart ow0.hasPathPart (by omega) (by omega) hbw0).mono ?_
  rintro e w9 ⟨rfl, m9⟩
  have M9 := M8.trans m9
  have z9 := m9.size
  replace k0_0 := m9.cellAt k0_0
  replace xw0_0 := m9.cellAt xw0_0
  replace xx_0 := m9.cellAt xx_0
  replace xg0_0 := m9.cellAt xg0_0
  replace h9 := h9.mk m9 (by omega) (.inr (Nat.le_refl _))
  replace o7 := o7.mk m9 (by omega) (.inr (.inr (Nat.le_refl _)))
  replace ow0 := ow0.mk m9 (by omega) (.inr (.inr (Nat.le_refl _)))
  replace og0 := og0.mk m9 (by omega) (.inr (.inr (Nat.le_refl _)))
  go_wp2_with fail
  have e13 : ∀ w', Mk0 w9 w' → HasPathPart w' w5.heap.size (some ⟨b6, 0, none⟩) n0_0 z0_0 := fun w' m => h9.mk m (by omega) (.inr (Nat.le_refl _))
  have e14 : ∀ w', Mk0 w9 w' → w5.heap.size ≤ w'.heap.size := fun w' m => Nat.le_trans (by omega) m.size
  have e15 : ∀ w', Mk0 w9 w' → HasPathPart w' w.heap.size a0_0 n0_0 z0_0 := fun w' m => h0_0.mk (M9.trans m) (Nat.le_refl _) (.inr (Nat.le_refl _))
  have hN0_0 : szPathPart z0_0 n0_0 ≤ 1048576 := by omega
  go_region_held3 (fun w' => Mk0 w9 w' ∧ w'.cell? ⟨w.heap.size, 0, none⟩ = some (.slice a0_0 n0_0 c0_0) ∧ w'.cell? ⟨w3.heap.size, 0, none⟩ = some (.slice A3 N3 C3) ∧ w'.cell? ⟨w5.heap.size, 0, none⟩ = some (.slice (some ⟨b6, 0, none⟩) n0_0 n0_0) ∧ w'.cell? ⟨w7.heap.size, 0, none⟩ = some (.slice A7 N3 C7)) (first | exact ⟨Mk.drew1 _, k0_0, xw0_0, xx_0, xg0_0⟩ | (obtain ⟨s0, s1, s2, s3, s4⟩ := ‹Mk0 w9 _ ∧ _›; exact ⟨s0.trans mm, mm.cellAt s1, mm.cellAt s2, mm.cellAt s3, mm.cellAt s4⟩)) (first | (go_at_call 35; refine (toPathC _ _ _ _ w.heap.size _ (e15 _ (‹Mk0 w9 _ ∧ _›).1) (M9.trans (‹Mk0 w9 _ ∧ _›).1).size hN0_0).mono ?_; rintro e wa ⟨bb0, rfl, oo0, gg0, mm⟩) | (go_at_call 23; refine (eqPathC _ _ _ _ _ _ _ _ _ (e13 _ (‹Mk0 w9 _ ∧ _›).1) (oo0.has.mono (Nat.le_refl _)) (e14 _ (‹Mk0 w9 _ ∧ _›).1) (Nat.le_refl _) hN0_0).mono ?_; rintro e wb10 ⟨rfl, mm⟩))
  obtain ⟨m10, k0_0, xw0_0, xx_0, xg0_0⟩ := ‹Mk0 w9 _ ∧ _›
  clear e13 e14 e15 hN0_0
  refine ‹∀ (a : Act) (w : World), _ → _› _ _ ?_
  have M10 := M9.trans m10
  have z10 := m10.size
  replace h9 := h9.mk m10 (by omega) (.inr (Nat.le_refl _))
  replace o7 := o7.mk m10 (by omega) (.inr (.inr (Nat.le_refl _)))
  replace ow0 := ow0.mk m10 (by omega) (.inr (.inr (Nat.le_refl _)))
  replace og0 := og0.mk m10 (by omega) (.inr (.inr (Nat.le_refl _)))
  go_wp2_with fail
  refine (markPathC _ _ _ _ w4.heap.size w5.heap.size _ _ o7 (by omega) (by omega) (by omega) (by omega) (by omega)).mono ?_
  rintro e w11 ⟨l11, hl11, rfl, m11⟩
  have M11 := M10.andR m11 (.inl (by omega))
  have z11 := m11.size
  replace k0_0 := m11.cellAtR k0_0 (by omega)
  replace xw0_0 := m11.cellAtR xw0_0 (by omega)
  replace xx_0 := m11.cellAtR xx_0 (by omega)
  replace xg0_0 := m11.cellAtR xg0_0 (by omega)
  replace ow0 := ow0.mk m11 (by omega) (by omega)
  replace og0 := og0.mk m11 (by omega) (by omega)
  go_wp2_with fail
  refine (eqPathC _ _ _ _ _ _ _ _ _ og0.hasPathPart ow0.hasPathPart (by omega) (by omega) hbw0).mono ?_
  rintro e w12 ⟨rfl, m12⟩
  have M12 := M11.trans m12
  have z12 := m12.size
  replace k0_0 := m12.cellAt k0_0
  replace xw0_0 := m12.cellAt xw0_0
  replace xx_0 := m12.cellAt xx_0
  replace xg0_0 := m12.cellAt xg0_0
  replace ow0 := ow0.mk m12 (by omega) (.inr (.inr (Nat.le_refl _)))
  replace og0 := og0.mk m12 (by omega) (.inr (.inr (Nat.le_refl _)))
  go_wp2_with fail
  refine (markPathN _ _ _ w6.heap.size w7.heap.size _ _ _ og0 (by omega) (by omega) hbw0t (by omega) (by omega)).mono ?_
  rintro e w13 ⟨rfl, oo13, m13⟩
  replace og0 := oo13
  clear oo13
  have M13 := M12.andR m13 (.inl (by omega))
  have z13 := m13.size
  replace k0_0 := m13.cellAtR k0_0 (by omega)
  replace xw0_0 := m13.cellAtR xw0_0 (by omega)
  replace xx_0 := m13.cellAtR xx_0 (by omega)
  replace xg0_0 := m13.cellAtR xg0_0 (by omega)
  replace ow0 := ow0.mk m13 (by omega) (by omega)
  go_wp2_with fail
  refine (heldPathN _ _ _ _ _ (turnL turnPt z0_0 n0_0) _ og0.hasPathPart (by omega) (by omega) hbw0t (by omega) (by omega)).mono ?_
  rintro e w14 ⟨rfl, m14⟩
  have M14 := M13.trans m14
  have z14 := m14.size
  replace k0_0 := m14.cellAt k0_0
  replace xw0_0 := m14.cellAt xw0_0
  replace xx_0 := m14.cellAt xx_0
  replace xg0_0 := m14.cellAt xg0_0
  replace ow0 := ow0.mk m14 (by omega) (.inr (.inr (Nat.le_refl _)))
  replace og0 := og0.mk m14 (by omega) (.inr (.inr (Nat.le_refl _)))
  go_wp2_with fail
  refine (toPathC _ _ _ _ w.heap.size _ (h0_0.mk M14 (Nat.le_refl _) (.inr (Nat.le_refl _))) (by omega) (by omega)).mono ?_
  rintro e w15 ⟨b16, rfl, o17, g18, m15⟩
  have M15 := M14.trans m15
  have z15 := m15.size
  replace k0_0 := m15.cellAt k0_0
  replace xw0_0 := m15.cellAt xw0_0
  replace xx_0 := m15.cellAt xx_0
  replace xg0_0 := m15.cellAt xg0_0
  replace ow0 := ow0.mk m15 (by omega) (.inr (.inr (Nat.le_refl _)))
  replace og0 := og0.mk m15 (by omega) (.inr (.inr (Nat.le_refl _)))
  have h19 := o17.has.mono (B' := w15.heap.size) (by omega)
  clear o17
  go_wp2_with fail
  refine (implRevPath _ n0_0 _ _ z0_0 _ h19 (by omega) (by omega) (Nat.le_refl _)).mono ?_
  rintro e w16 ⟨A16, N16, C16, rfl, hc16, oh0, m16⟩
  clear hc16
  obtain rfl : N3 = N16 := ow0.1.symm.trans oh0.1
  have M16 := M15.trans m16
  have z16 := m16.size
  replace k0_0 := m16.cellAt k0_0
  replace xw0_0 := m16.cellAt xw0_0
  replace xx_0 := m16.cellAt xx_0
  replace xg0_0 := m16.cellAt xg0_0
  replace h19 := h19.mk m16 (by omega) (.inr (Nat.le_refl _))
  replace ow0 := ow0.mk m16 (by omega) (.inr (.inr (Nat.le_refl _)))
  replace og0 := og0.mk m16 (by omega) (.inr (.inr (Nat.le_refl _)))
  have yb20 : w.heap.size < w16.heap.size := by omega
  have yb21 : w3.heap.size < w16.heap.size := by omega
  have yb22 : w5.heap.size < w16.heap.size := by omega
  have yb23 : w7.heap.size < w16.heap.size := by omega
  go_wp2_with fail
  have xh0_0 : (w16.alloc (Obj.cells #[Value.slice A16 N3 C16] 42)).cell? ⟨w16.heap.size, 0, none⟩ = some (.slice A16 N3 C16) := by rw [World.cell?_alloc_at _ _ _ _ rfl]; rfl
  have m17 := Mk.alloc w16 (Obj.cells #[Value.slice A16 N3 C16] 42)
  replace k0_0 := m17.cellAt k0_0
  replace xw0_0 := m17.cellAt xw0_0
  replace xx_0 := m17.cellAt xx_0
  replace xg0_0 := m17.cellAt xg0_0
  replace h19 := h19.mk m17 (by omega) (.inr (Nat.le_refl _))
  replace ow0 := ow0.mk m17 (by omega) (.inr (.inr (Nat.le_refl _)))
  replace og0 := og0.mk m17 (by omega) (.inr (.inr (Nat.le_refl _)))
  replace oh0 := oh0.mk m17 (by omega) (.inr (.inr (Nat.le_refl _)))
  have M17 := M16.trans m17
  have z17 := m17.size
  have zz17 : w16.heap.size < (w16.alloc (Obj.cells #[Value.slice A16 N3 C16] 42)).heap.size := by rw [World.size_alloc]; omega
  generalize (w16.alloc (Obj.cells #[Value.slice A16 N3 C16] 42)) = w17 at *
  refine (eqPathC _ _ _ _ _ _ _ _ _ oh0.hasPathPart ow0.hasPathPart (by omega) (by omega) hbw0).mono ?_
  rintro e w18 ⟨rfl, m18⟩
  have M18 := M17.trans m18
  have z18 := m18.size
  replace k0_0 := m18.cellAt k0_0
  replace xw0_0 := m18.cellAt xw0_0
  replace xx_0 := m18.cellAt xx_0
  replace xg0_0 := m18.cellAt xg0_0
  replace xh0_0 := m18.cellAt xh0_0
  replace ow0 := ow0.mk m18 (by omega) (.inr (.inr (Nat.le_refl _)))
  replace og0 := og0.mk m18 (by omega) (.inr (.inr (Nat.le_refl _)))
  replace oh0 := oh0.mk m18 (by omega) (.inr (.inr (Nat.le_refl _)))
  go_wp2_with fail
  refine (heldPathN _ _ _ _ _ (turnL turnPt z0_0 n0_0) _ og0.hasPathPart (by omega) (by omega) hbw0t (by omega) (by omega)).mono ?_
  rintro e w19 ⟨rfl, m19⟩
  have M19 := M18.trans m19
  have z19 := m19.size
  replace k0_0 := m19.cellAt k0_0
  replace xw0_0 := m19.cellAt xw0_0
  replace xx_0 := m19.cellAt xx_0
  replace xg0_0 := m19.cellAt xg0_0
  replace xh0_0 := m19.cellAt xh0_0
  replace ow0 := ow0.mk m19 (by omega) (.inr (.inr (Nat.le_refl _)))
  replace og0 := og0.mk m19 (by omega) (.inr (.inr (Nat.le_refl _)))
  replace oh0 := oh0.mk m19 (by omega) (.inr (.inr (Nat.le_refl _)))
  go_wp2_with fail
  go_ret
  exact ⟨rfl, M19.below0⟩

set_option maxRecDepth 100000 in
theorem lifted (os : Os) (started : os.Started) (H : Type) (enc : TypeId × Value → H) :
    ReturnsInHanded {} Try.checked os 8 .any (Rows.fnExactReversePathSpec.pre6 enc Try.prog Try.f8 Rows.fnExactReversePathRow.domain false) (Rows.fnExactReversePathSpec.post enc Try.prog Try.f8 false true false false) := by
  refine returnsInHanded_of_change (C := Try.checked) own started (by kernel_rfl) Try.func8
    (ChangeSpec.witness6 (enc := enc) (C := Try.checked) false ⟨#[], #[.agg #[.slice none 0 0]], []⟩ 8 (by kernel_rfl) (by kernel_rfl) (by kernel_rfl) (by kernel_rfl)) ?_
  intro W base args ds gs before hval0 hW hcnd _
  have hval : ∀ (j : Nat) t v, Try.f8.params[j]? = some t → args[j]? = some v → Value.okWide Try.prog W .any base t v := hval0
  have hW' := hW
  obtain ⟨p, q, hA0, hV, rfl, hfz, hnd⟩ := hW
  have hA : DataW.TrodAll enc Try.prog W 0 (fun _ => true) true Try.f8.params.toList args.toList ds p := hA0
  rw [Try.params8] at hA hval
  obtain ⟨v0, vs0, d0, ds0, p0, q0, hargs, rfl, rfl, h0, r0⟩ := trodAll_cons hA
  obtain ⟨rfl, rfl, rfl⟩ := trodAll_nil r0
  obtain rfl : args = #[v0] := by cases args; simp_all
  obtain ⟨rfl, rfl⟩ := trodVars_none hV
  have k0 := h0
  have lt0 : ∀ x ∈ p0, x.block < W.heap.size := by obtain ⟨m, hm⟩ := k0; exact DataW.trod_lt m _ _ _ hm
  obtain ⟨cs0, rfl, hcs0, hf0⟩ := open_agg Try.underlying58 (by kernel_rfl) (by kernel_rfl) (hval 0 58 v0 rfl rfl) h0
  obtain ⟨_, _, _, e0_0, q0_0⟩ := hf0 0 _ rfl
  obtain ⟨a0_0, n0_0, c0_0, z0_0, rfl, m0_0, h0_0, f0_0⟩ := openPathPartS q0_0
  obtain rfl : cs0 = #[.slice a0_0 n0_0 c0_0] := arr_of [.slice a0_0 n0_0 c0_0] hcs0 (fun j hj => by match j, hj with | 0, _ => exact e0_0)
  clear hA0 hval0
  refine (walk a0_0 n0_0 c0_0 z0_0 W h0_0 m0_0 f0_0).mono fun e W' ⟨he, bel⟩ => ?_
  subst he
  exact ⟨_, rfl, _, _, _, [], _, [], hW', trodAll_mk1 (shut_bool Try.underlying4 _), (trodAll_cons_mk (Below.trod laidOut (by kernel_rfl) (of_decide_eq_true (by kernel_rfl)) k0 bel lt0) trodAll_mk0), rfl, bel.frame _, fun h => by cases h⟩

theorem over : Rows.fnExactReversePathRow.holds Try.pinned (OpenSpec.ofChange Rows.fnExactReversePathSpec) :=
  OpenClaim.holds_of_wide 8 Try.f8 rfl rfl rfl rfl rfl rfl rfl ⟨rfl, rfl, rfl, rfl, rfl⟩ rfl rfl rfl rfl rfl (by kernel_rfl) Try.func8 (by kernel_rfl)
    (of_decide_eq_true (by kernel_rfl)) (by unfold Func.isWrapper; first | (rw [if_pos (by decide +kernel)]; kernel_rfl) | (rw [if_neg (by decide +kernel)]; exact ⟨rfl, rfl⟩))
    (fun os started H enc _ => lifted os started H enc)

theorem proved : Rows.FnExactReversePathSaid := over
#print axioms proved
end Go.Proofs.Ytbkbkpnpllemfaa.fnExactReversePath
