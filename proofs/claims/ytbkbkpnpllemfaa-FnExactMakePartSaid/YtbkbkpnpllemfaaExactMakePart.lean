
/- For every segment, kind and index, the law on MakePart returns true; no further condition. -/
import Derived.Test.YtbkbkpnpllemfaaRows
import Derived.WalkKit
import Derived.ProofKit
import Derived.OpenShut
import Derived.ShutString
import Derived.ChangeOld
import Derived.Below
import Derived.Test.YtbkbkpnpllemfaaOHop
import Derived.Test.YtbkbkpnpllemfaaZHop
import Derived.Test.YtbkbkpnpllemfaaStruct
import Derived.Deep.RegionHeld3
import Derived.Test.YtbkbkpnpllemfaaMkPS
import Derived.Test.YtbkbkpnpllemfaaKSegment
import Derived.Test.YtbkbkpnpllemfaaMkcPathPart
namespace Go.Proofs.Ytbkbkpnpllemfaa.fnExactMakePart
open Go.ChangeShapes Go.WideShapes Go.ChangeAt Go.RowKit
open Go.ChangeMaps (open_string shut_string)
set_option linter.unusedVariables false

theorem own : ownKnob Try.prog.godebug = none := by kernel_rfl
theorem laidOut : laidOutB Try.prog = true := by kernel_rfl

set_option maxRecDepth 100000 in
set_option maxHeartbeats 4000000 in
theorem walk (a0_0 : Int) (a0_1 : Int) (a0_2 : Option Addr) (n0_2 c0_2 : Nat) (z0_2 : List THop) (a1 : Int) (a2 : Int) (w : World) (w0_0 : (Lit.int .i64 a0_0).wf = true) (w0_1 : (Lit.int .i64 a0_1).wf = true) (h0_2 : HasHop w w.heap.size a0_2 n0_2 z0_2) (m0_2 : n0_2 ≤ 9223372036854775807) (f0_2 : ∀ x ∈ z0_2, THop.fits x) (w1 : (Lit.int .i64 a1).wf = true) (w2 : (Lit.int .i64 a2).wf = true) :
    Calls Try.prog 4 #[.agg #[.int .i64 a0_0, .int .i64 a0_1, .slice a0_2 n0_2 c0_2], .int .i64 a1, .int .i64 a2] w fun e w' => e = .returned (.bool true) ∧ Below w.heap.size w w' := by
  by_cases hbig0 : (1048576 : Int) < (n0_2 : Int)
  · go_enter Try.func4, Try.ntmps4
    go_wp2_with fail
    have M0 : Mk0 w (w.alloc (Obj.cells #[Value.int .i64 a0_0, Value.int .i64 a0_1, Value.slice a0_2 n0_2 c0_2] 24)) := (Mk.alloc w _)
    have k0_0 : (w.alloc (Obj.cells #[Value.int .i64 a0_0, Value.int .i64 a0_1, Value.slice a0_2 n0_2 c0_2] 24)).cell? ⟨w.heap.size, 0, none⟩ = some (.int .i64 a0_0) := by simp [go_sem]
    have k0_1 : (w.alloc (Obj.cells #[Value.int .i64 a0_0, Value.int .i64 a0_1, Value.slice a0_2 n0_2 c0_2] 24)).cell? ⟨w.heap.size, 1, none⟩ = some (.int .i64 a0_1) := by simp [go_sem]
    have k0_2 : (w.alloc (Obj.cells #[Value.int .i64 a0_0, Value.int .i64 a0_1, Value.slice a0_2 n0_2 c0_2] 24)).cell? ⟨w.heap.size, 2, none⟩ = some (.slice a0_2 n0_2 c0_2) := by simp [go_sem]
    refine (szSegmentB _ _ _ _ _ _ _ (by omega) (by omega) (by omega) m0_2).mono ?_
    rintro e w1 ⟨rfl, m1⟩
    go_wp2_with fail
    go_ret
    exact ⟨rfl, (M0.trans m1).below0⟩
  have hn0 : (n0_2 : Int) ≤ (1048576 : Int) := by omega
  clear hbig0
  go_enter Try.func4, Try.ntmps4
  go_wp2_with fail
  have M0 : Mk0 w (w.alloc (Obj.cells #[Value.int .i64 a0_0, Value.int .i64 a0_1, Value.slice a0_2 n0_2 c0_2] 24)) := (Mk.alloc w _)
  have k0_0 : (w.alloc (Obj.cells #[Value.int .i64 a0_0, Value.int .i64 a0_1, Value.slice a0_2 n0_2 c0_2] 24)).cell? ⟨w.heap.size, 0, none⟩ = some (.int .i64 a0_0) := by simp [go_sem]
  have k0_1 : (w.alloc (Obj.cells #[Value.int .i64 a0_0, Value.int .i64 a0_1, Value.slice a0_2 n0_2 c0_2] 24)).cell? ⟨w.heap.size, 1, none⟩ = some (.int .i64 a0_1) := by simp [go_sem]
  have k0_2 : (w.alloc (Obj.cells #[Value.int .i64 a0_0, Value.int .i64 a0_1, Value.slice a0_2 n0_2 c0_2] 24)).cell? ⟨w.heap.size, 2, none⟩ = some (.slice a0_2 n0_2 c0_2) := by simp [go_sem]
  refine (szSegmentC _ _ _ _ _ _ _ (by omega) (by omega) (by omega)).mono ?_
  rintro e w1 ⟨l1, hl1, rfl, m1⟩
  have M1 := M0.trans m1
  replace k0_0 := m1.cellAt k0_0
  replace k0_1 := m1.cellAt k0_1
  replace k0_2 := m1.cellAt k0_2
  have z1 := m1.size
  simp only [World.size_alloc] at z1
  go_wp2_with fail
  refine (toSegmentC _ _ _ _ _ _ w.heap.size _ (h0_2.mk M1 (Nat.le_refl _) (.inr (Nat.le_refl _))) (by omega) (by omega)).mono ?_
  rintro e w2 ⟨b1, rfl, o2, g3, m2⟩
  have M2 := M1.trans m2
  have z2 := m2.size
  replace k0_0 := m2.cellAt k0_0
  replace k0_1 := m2.cellAt k0_1
  replace k0_2 := m2.cellAt k0_2
  have h4 := o2.has.mono (B' := w2.heap.size) (by omega)
  clear o2
  go_wp2_with fail
  refine (specMkP a0_0 a0_1 _ n0_2 _ _ z0_2 a1 a2 _ h4 (by omega) (by omega) (fun h => by cases h) (Nat.le_refl _)).mono ?_
  rintro e w3 ⟨A3, N3, C3, rfl, hc3, ow0, m3⟩
  clear hc3
  have hbw0 : N3 ≤ 1048576 := by have h1 := ow0.1; have h2 := mpRow_le z0_2 n0_2 a1 a2 h0_2.1; omega
  have M3 := M2.trans m3
  have z3 := m3.size
  replace k0_0 := m3.cellAt k0_0
  replace k0_1 := m3.cellAt k0_1
  replace k0_2 := m3.cellAt k0_2
  replace h4 := h4.mk m3 (by omega) (.inr (Nat.le_refl _))
  have yb5 : w.heap.size < w3.heap.size := by omega
  go_wp2_with fail
  have xw0_0 : (w3.alloc (Obj.cells #[Value.int .i64 (cnd (mpB n0_2 a1 a2) a1), Value.int .i64 (cnd (mpB n0_2 a1 a2) a0_0), Value.int .i64 (cnd (mpB n0_2 a1 a2) (mpBeta a0_1 z0_2 n0_2 a1 a2)), Value.slice A3 N3 C3] 35)).cell? ⟨w3.heap.size, 0, none⟩ = some (.int .i64 (cnd (mpB n0_2 a1 a2) a1)) := by rw [World.cell?_alloc_at _ _ _ _ rfl]; rfl
  have xw0_1 : (w3.alloc (Obj.cells #[Value.int .i64 (cnd (mpB n0_2 a1 a2) a1), Value.int .i64 (cnd (mpB n0_2 a1 a2) a0_0), Value.int .i64 (cnd (mpB n0_2 a1 a2) (mpBeta a0_1 z0_2 n0_2 a1 a2)), Value.slice A3 N3 C3] 35)).cell? ⟨w3.heap.size, 1, none⟩ = some (.int .i64 (cnd (mpB n0_2 a1 a2) a0_0)) := by rw [World.cell?_alloc_at _ _ _ _ rfl]; rfl
  have xw0_2 : (w3.alloc (Obj.cells #[Value.int .i64 (cnd (mpB n0_2 a1 a2) a1), Value.int .i64 (cnd (mpB n0_2 a1 a2) a0_0), Value.int .i64 (cnd (mpB n0_2 a1 a2) (mpBeta a0_1 z0_2 n0_2 a1 a2)), Value.slice A3 N3 C3] 35)).cell? ⟨w3.heap.size, 2, none⟩ = some (.int .i64 (cnd (mpB n0_2 a1 a2) (mpBeta a0_1 z0_2 n0_2 a1 a2))) := by rw [World.cell?_alloc_at _ _ _ _ rfl]; rfl
  have xw0_3 : (w3.alloc (Obj.cells #[Value.int .i64 (cnd (mpB n0_2 a1 a2) a1), Value.int .i64 (cnd (mpB n0_2 a1 a2) a0_0), Value.int .i64 (cnd (mpB n0_2 a1 a2) (mpBeta a0_1 z0_2 n0_2 a1 a2)), Value.slice A3 N3 C3] 35)).cell? ⟨w3.heap.size, 3, none⟩ = some (.slice A3 N3 C3) := by rw [World.cell?_alloc_at _ _ _ _ rfl]; rfl
  have m4 := Mk.alloc w3 (Obj.cells #[Value.int .i64 (cnd (mpB n0_2 a1 a2) a1), Value.int .i64 (cnd (mpB n0_2 a1 a2) a0_0), Value.int .i64 (cnd (mpB n0_2 a1 a2) (mpBeta a0_1 z0_2 n0_2 a1 a2)), Value.slice A3 N3 C3] 35)
  replace k0_0 := m4.cellAt k0_0
  replace k0_1 := m4.cellAt k0_1
  replace k0_2 := m4.cellAt k0_2
  replace h4 := h4.mk m4 (by omega) (.inr (Nat.le_refl _))
  replace ow0 := ow0.mk m4 (by omega) (.inr (.inr (Nat.le_refl _)))
  have M4 := M3.trans m4
  have z4 := m4.size
  have zz4 : w3.heap.size < (w3.alloc (Obj.cells #[Value.int .i64 (cnd (mpB n0_2 a1 a2) a1), Value.int .i64 (cnd (mpB n0_2 a1 a2) a0_0), Value.int .i64 (cnd (mpB n0_2 a1 a2) (mpBeta a0_1 z0_2 n0_2 a1 a2)), Value.slice A3 N3 C3] 35)).heap.size := by rw [World.size_alloc]; omega
  generalize (w3.alloc (Obj.cells #[Value.int .i64 (cnd (mpB n0_2 a1 a2) a1), Value.int .i64 (cnd (mpB n0_2 a1 a2) a0_0), Value.int .i64 (cnd (mpB n0_2 a1 a2) (mpBeta a0_1 z0_2 n0_2 a1 a2)), Value.slice A3 N3 C3] 35)) = w4 at *
  refine (toSegmentC _ _ _ _ _ _ w.heap.size _ (h0_2.mk M4 (Nat.le_refl _) (.inr (Nat.le_refl _))) (by omega) (by omega)).mono ?_
  rintro e w5 ⟨b6, rfl, o7, g8, m5⟩
  have M5 := M4.trans m5
  have z5 := m5.size
  replace k0_0 := m5.cellAt k0_0
  replace k0_1 := m5.cellAt k0_1
  replace k0_2 := m5.cellAt k0_2
  replace xw0_0 := m5.cellAt xw0_0
  replace xw0_1 := m5.cellAt xw0_1
  replace xw0_2 := m5.cellAt xw0_2
  replace xw0_3 := m5.cellAt xw0_3
  replace ow0 := ow0.mk m5 (by omega) (.inr (.inr (Nat.le_refl _)))
  have h9 := o7.has.mono (B' := w5.heap.size) (by omega)
  go_wp2_with fail
  have xx_0 : (w5.alloc (Obj.cells #[Value.int .i64 a0_0, Value.int .i64 a0_1, Value.slice (some ⟨b6, 0, none⟩) n0_2 n0_2] 28)).cell? ⟨w5.heap.size, 0, none⟩ = some (.int .i64 a0_0) := by rw [World.cell?_alloc_at _ _ _ _ rfl]; rfl
  have xx_1 : (w5.alloc (Obj.cells #[Value.int .i64 a0_0, Value.int .i64 a0_1, Value.slice (some ⟨b6, 0, none⟩) n0_2 n0_2] 28)).cell? ⟨w5.heap.size, 1, none⟩ = some (.int .i64 a0_1) := by rw [World.cell?_alloc_at _ _ _ _ rfl]; rfl
  have xx_2 : (w5.alloc (Obj.cells #[Value.int .i64 a0_0, Value.int .i64 a0_1, Value.slice (some ⟨b6, 0, none⟩) n0_2 n0_2] 28)).cell? ⟨w5.heap.size, 2, none⟩ = some (.slice (some ⟨b6, 0, none⟩) n0_2 n0_2) := by rw [World.cell?_alloc_at _ _ _ _ rfl]; rfl
  have m6 := Mk.alloc w5 (Obj.cells #[Value.int .i64 a0_0, Value.int .i64 a0_1, Value.slice (some ⟨b6, 0, none⟩) n0_2 n0_2] 28)
  replace k0_0 := m6.cellAt k0_0
  replace k0_1 := m6.cellAt k0_1
  replace k0_2 := m6.cellAt k0_2
  replace xw0_0 := m6.cellAt xw0_0
  replace xw0_1 := m6.cellAt xw0_1
  replace xw0_2 := m6.cellAt xw0_2
  replace xw0_3 := m6.cellAt xw0_3
  replace h9 := h9.mk m6 (by omega) (.inr (Nat.le_refl _))
  replace o7 := o7.mk m6 (by omega) (.inr (.inr (Nat.le_refl _)))
  replace ow0 := ow0.mk m6 (by omega) (.inr (.inr (Nat.le_refl _)))
  have M6 := M5.trans m6
  have z6 := m6.size
  have zz6 : w5.heap.size < (w5.alloc (Obj.cells #[Value.int .i64 a0_0, Value.int .i64 a0_1, Value.slice (some ⟨b6, 0, none⟩) n0_2 n0_2] 28)).heap.size := by rw [World.size_alloc]; omega
  generalize (w5.alloc (Obj.cells #[Value.int .i64 a0_0, Value.int .i64 a0_1, Value.slice (some ⟨b6, 0, none⟩) n0_2 n0_2] 28)) = w6 at *
  refine (implMkP a0_0 a0_1 _ n0_2 _ _ z0_2 a1 a2 _ h9 (by omega) (by omega) (fun h => by cases h) (Nat.le_refl _)).mono ?_
  rintro e w7 ⟨A7, N7, C7, rfl, hc7, og0, m7⟩
  clear hc7
  obtain rfl : N3 = N7 := ow0.1.symm.trans og0.1
  have M7 := M6.trans m7
  have z7 := m7.size
  replace k0_0 := m7.cellAt k0_0
  replace k0_1 := m7.cellAt k0_1
  replace k0_2 := m7.cellAt k0_2
  replace xw0_0 := m7.cellAt xw0_0
  replace xw0_1 := m7.cellAt xw0_1
  replace xw0_2 := m7.cellAt xw0_2
  replace xw0_3 := m7.cellAt xw0_3
  replace xx_0 := m7.cellAt xx_0
  replace xx_1 := m7.cellAt xx_1
  replace xx_2 := m7.cellAt xx_2
  replace h9 := h9.mk m7 (by omega) (.inr (Nat.le_refl _))
  replace o7 := o7.mk m7 (by omega) (.inr (.inr (Nat.le_refl _)))
  replace ow0 := ow0.mk m7 (by omega) (.inr (.inr (Nat.le_refl _)))
  have yb10 : w.heap.size < w7.heap.size := by omega
  have yb11 : w3.heap.size < w7.heap.size := by omega
  have yb12 : w5.heap.size < w7.heap.size := by omega
  go_wp2_with fail
  have xg0_0 : (w7.alloc (Obj.cells #[Value.int .i64 (cnd (mpB n0_2 a1 a2) a1), Value.int .i64 (cnd (mpB n0_2 a1 a2) a0_0), Value.int .i64 (cnd (mpB n0_2 a1 a2) (mpBeta a0_1 z0_2 n0_2 a1 a2)), Value.slice A7 N3 C7] 35)).cell? ⟨w7.heap.size, 0, none⟩ = some (.int .i64 (cnd (mpB n0_2 a1 a2) a1)) := by rw [World.cell?_alloc_at _ _ _ _ rfl]; rfl
  have xg0_1 : (w7.alloc (Obj.cells #[Value.int .i64 (cnd (mpB n0_2 a1 a2) a1), Value.int .i64 (cnd (mpB n0_2 a1 a2) a0_0), Value.int .i64 (cnd (mpB n0_2 a1 a2) (mpBeta a0_1 z0_2 n0_2 a1 a2)), Value.slice A7 N3 C7] 35)).cell? ⟨w7.heap.size, 1, none⟩ = some (.int .i64 (cnd (mpB n0_2 a1 a2) a0_0)) := by rw [World.cell?_alloc_at _ _ _ _ rfl]; rfl
  have xg0_2 : (w7.alloc (Obj.cells #[Value.int .i64 (cnd (mpB n0_2 a1 a2) a1), Value.int .i64 (cnd (mpB n0_2 a1 a2) a0_0), Value.int .i64 (cnd (mpB n0_2 a1 a2) (mpBeta a0_1 z0_2 n0_2 a1 a2)), Value.slice A7 N3 C7] 35)).cell? ⟨w7.heap.size, 2, none⟩ = some (.int .i64 (cnd (mpB n0_2 a1 a2) (mpBeta a0_1 z0_2 n0_2 a1 a2))) := by rw [World.cell?_alloc_at _ _ _ _ rfl]; rfl
  have xg0_3 : (w7.alloc (Obj.cells #[Value.int .i64 (cnd (mpB n0_2 a1 a2) a1), Value.int .i64 (cnd (mpB n0_2 a1 a2) a0_0), Value.int .i64 (cnd (mpB n0_2 a1 a2) (mpBeta a0_1 z0_2 n0_2 a1 a2)), Value.slice A7 N3 C7] 35)).cell? ⟨w7.heap.size, 3, none⟩ = some (.slice A7 N3 C7) := by rw [World.cell?_alloc_at _ _ _ _ rfl]; rfl
  have m8 := Mk.alloc w7 (Obj.cells #[Value.int .i64 (cnd (mpB n0_2 a1 a2) a1), Value.int .i64 (cnd (mpB n0_2 a1 a2) a0_0), Value.int .i64 (cnd (mpB n0_2 a1 a2) (mpBeta a0_1 z0_2 n0_2 a1 a2)), Value.slice A7 N3 C7] 35)
  replace k0_0 := m8.cellAt k0_0
  replace k0_1 := m8.cellAt k0_1
  replace k0_2 := m8.cellAt k0_2
  replace xw0_0 := m8.cellAt xw0_0
  replace xw0_1 := m8.cellAt xw0_1
  replace xw0_2 := m8.cellAt xw0_2
  replace xw0_3 := m8.cellAt xw0_3
  replace xx_0 := m8.cellAt xx_0
  replace xx_1 := m8.cellAt xx_1
  replace xx_2 := m8.cellAt xx_2
  replace h9 := h9.mk m8 (by omega) (.inr (Nat.le_refl _))
  replace o7 := o7.mk m8 (by omega) (.inr (.inr (Nat.le_refl _)))
  replace ow0 := ow0.mk m8 (by omega) (.inr (.inr (Nat.le_refl _)))
  replace og0 := og0.mk m8 (by omega) (.inr (.inr (Nat.le_refl _)))
  have M8 := M7.trans m8
  have z8 := m8.size
  have zz8 : w7.heap.size < (w7.alloc (Obj.cells #[Value.int .i64 (cnd (mpB n0_2 a1 a2) a1), Value.int .i64 (cnd (mpB n0_2 a1 a2) a0_0), Value.int .i64 (cnd (mpB n0_2 a1 a2) (mpBeta a0_1 z0_2 n0_2 a1 a2)), Value.slice A7 N3 C7] 35)).heap.size := by rw [World.size_alloc]; omega
  generalize (w7.alloc (Obj.cells #[Value.int .i64 (cnd (mpB n0_2 a1 a2) a1), Value.int .i64 (cnd (mpB n0_2 a1 a2) a0_0), Value.int .i64 (cnd (mpB n0_2 a1 a2) (mpBeta a0_1 z0_2 n0_2 a1 a2)), Value.slice A7 N3 C7] 35)) = w8 at *
  refine (eqPathPartC _ _ _ _ _ _ _ _ _ _ _ _ og0.has ow0.has (by omega) (by omega) (by omega)).mono ?_
  rintro e w9 ⟨rfl, m9⟩
  have M9 := M8.trans m9
  have z9 := m9.size
  replace k0_0 := m9.cellAt k0_0
  replace k0_1 := m9.cellAt k0_1
  replace k0_2 := m9.cellAt k0_2
  replace xw0_0 := m9.cellAt xw0_0
  replace xw0_1 := m9.cellAt xw0_1
  replace xw0_2 := m9.cellAt xw0_2
  replace xw0_3 := m9.cellAt xw0_3
  replace xx_0 := m9.cellAt xx_0
  replace xx_1 := m9.cellAt xx_1
  replace xx_2 := m9.cellAt xx_2
  replace xg0_0 := m9.cellAt xg0_0
  replace xg0_1 := m9.cellAt xg0_1
  replace xg0_2 := m9.cellAt xg0_2
  replace xg0_3 := m9.cellAt xg0_3
  replace h9 := h9.mk m9 (by omega) (.inr (Nat.le_refl _))
  replace o7 := o7.mk m9 (by omega) (.inr (.inr (Nat.le_refl _)))
  replace ow0 := ow0.mk m9 (by omega) (.inr (.inr (Nat.le_refl _)))
  replace og0 := og0.mk m9 (by omega) (.inr (.inr (Nat.le_refl _)))
  go_wp2_with fail
  have e13 : ∀ w', Mk0 w9 w' → HasHop w' w5.heap.size (some ⟨b6, 0, none⟩) n0_2 z0_2 := fun w' m => h9.mk m (by omega) (.inr (Nat.le_refl _))
  have e14 : ∀ w', Mk0 w9 w' → w5.heap.size ≤ w'.heap.size := fun w' m => Nat.le_trans (by omega) m.size
  have e15 : ∀ w', Mk0 w9 w' → HasHop w' w.heap.size a0_2 n0_2 z0_2 := fun w' m => h0_2.mk (M9.trans m) (Nat.le_refl _) (.inr (Nat.le_refl _))
  have hN0_2 : n0_2 ≤ 1048576 := by omega
  go_region_held3 (fun w' => Mk0 w9 w' ∧ w'.cell? ⟨w.heap.size, 0, none⟩ = some (.int .i64 a0_0) ∧ w'.cell? ⟨w.heap.size, 1, none⟩ = some (.int .i64 a0_1) ∧ w'.cell? ⟨w.heap.size, 2, none⟩ = some (.slice a0_2 n0_2 c0_2) ∧ w'.cell? ⟨w3.heap.size, 0, none⟩ = some (.int .i64 (cnd (mpB n0_2 a1 a2) a1)) ∧ w'.cell? ⟨w3.heap.size, 1, none⟩ = some (.int .i64 (cnd (mpB n0_2 a1 a2) a0_0)) ∧ w'.cell? ⟨w3.heap.size, 2, none⟩ = some (.int .i64 (cnd (mpB n0_2 a1 a2) (mpBeta a0_1 z0_2 n0_2 a1 a2))) ∧ w'.cell? ⟨w3.heap.size, 3, none⟩ = some (.slice A3 N3 C3) ∧ w'.cell? ⟨w5.heap.size, 0, none⟩ = some (.int .i64 a0_0) ∧ w'.cell? ⟨w5.heap.size, 1, none⟩ = some (.int .i64 a0_1) ∧ w'.cell? ⟨w5.heap.size, 2, none⟩ = some (.slice (some ⟨b6, 0, none⟩) n0_2 n0_2) ∧ w'.cell? ⟨w7.heap.size, 0, none⟩ = some (.int .i64 (cnd (mpB n0_2 a1 a2) a1)) ∧ w'.cell? ⟨w7.heap.size, 1, none⟩ = some (.int .i64 (cnd (mpB n0_2 a1 a2) a0_0)) ∧ w'.cell? ⟨w7.heap.size, 2, none⟩ = some (.int .i64 (cnd (mpB n0_2 a1 a2) (mpBeta a0_1 z0_2 n0_2 a1 a2))) ∧ w'.cell? ⟨w7.heap.size, 3, none⟩ = some (.slice A7 N3 C7)) (first | exact ⟨Mk.drew1 _, k0_0, k0_1, k0_2, xw0_0, xw0_1, xw0_2, xw0_3, xx_0, xx_1, xx_2, xg0_0, xg0_1, xg0_2, xg0_3⟩ | (obtain ⟨s0, s1, s2, s3, s4, s5, s6, s7, s8, s9, s10, s11, s12, s13, s14⟩ := ‹Mk0 w9 _ ∧ _›; exact ⟨s0.trans mm, mm.cellAt s1, mm.cellAt s2, mm.cellAt s3, mm.cellAt s4, mm.cellAt s5, mm.cellAt s6, mm.cellAt s7, mm.cellAt s8, mm.cellAt s9, mm.cellAt s10, mm.cellAt s11, mm.cellAt s12, mm.cellAt s13, mm.cellAt s14⟩)) (first | (go_at_call 11; refine (toSegmentC _ _ _ _ _ _ w.heap.size _ (e15 _ (‹Mk0 w9 _ ∧ _›).1) (M9.trans (‹Mk0 w9 _ ∧ _›).1).size hN0_2).mono ?_; rintro e wa ⟨bb0, rfl, oo0, gg0, mm⟩) | (go_at_call 13; refine (eqSegmentC _ _ _ _ _ _ _ _ _ _ _ (e13 _ (‹Mk0 w9 _ ∧ _›).1) (oo0.has.mono (Nat.le_refl _)) (e14 _ (‹Mk0 w9 _ ∧ _›).1) (Nat.le_refl _) hN0_2).mono ?_; rintro e wb10 ⟨rfl, mm⟩))
  obtain ⟨m10, k0_0, k0_1, k0_2, xw0_0, xw0_1, xw0_2, xw0_3, xx_0, xx_1, xx_2, xg0_0, xg0_1, xg0_2, xg0_3⟩ := ‹Mk0 w9 _ ∧ _›
  clear e13 e14 e15 hN0_2
  refine ‹∀ (a : Act) (w : World), _ → _› _ _ ?_
  have M10 := M9.trans m10
  have z10 := m10.size
  replace h9 := h9.mk m10 (by omega) (.inr (Nat.le_refl _))
  replace o7 := o7.mk m10 (by omega) (.inr (.inr (Nat.le_refl _)))
  replace ow0 := ow0.mk m10 (by omega) (.inr (.inr (Nat.le_refl _)))
  replace og0 := og0.mk m10 (by omega) (.inr (.inr (Nat.le_refl _)))
  go_wp2_with fail
  refine (markSegmentC _ _ _ _ _ _ w4.heap.size w5.heap.size _ _ o7 (by omega) (by omega) (by omega) (by omega) (by omega)).mono ?_
  rintro e w11 ⟨l11, hl11, rfl, m11⟩
  have M11 := M10.andR m11 (.inl (by omega))
  have z11 := m11.size
  replace k0_0 := m11.cellAtR k0_0 (by omega)
  replace k0_1 := m11.cellAtR k0_1 (by omega)
  replace k0_2 := m11.cellAtR k0_2 (by omega)
  replace xw0_0 := m11.cellAtR xw0_0 (by omega)
  replace xw0_1 := m11.cellAtR xw0_1 (by omega)
  replace xw0_2 := m11.cellAtR xw0_2 (by omega)
  replace xw0_3 := m11.cellAtR xw0_3 (by omega)
  replace xx_0 := m11.cellAtR xx_0 (by omega)
  replace xx_1 := m11.cellAtR xx_1 (by omega)
  replace xx_2 := m11.cellAtR xx_2 (by omega)
  replace xg0_0 := m11.cellAtR xg0_0 (by omega)
  replace xg0_1 := m11.cellAtR xg0_1 (by omega)
  replace xg0_2 := m11.cellAtR xg0_2 (by omega)
  replace xg0_3 := m11.cellAtR xg0_3 (by omega)
  replace ow0 := ow0.mk m11 (by omega) (by omega)
  replace og0 := og0.mk m11 (by omega) (by omega)
  go_wp2_with fail
  refine (eqPathPartC _ _ _ _ _ _ _ _ _ _ _ _ og0.has ow0.has (by omega) (by omega) (by omega)).mono ?_
  rintro e w12 ⟨rfl, m12⟩
  have M12 := M11.trans m12
  have z12 := m12.size
  replace k0_0 := m12.cellAt k0_0
  replace k0_1 := m12.cellAt k0_1
  replace k0_2 := m12.cellAt k0_2
  replace xw0_0 := m12.cellAt xw0_0
  replace xw0_1 := m12.cellAt xw0_1
  replace xw0_2 := m12.cellAt xw0_2
  replace xw0_3 := m12.cellAt xw0_3
  replace xx_0 := m12.cellAt xx_0
  replace xx_1 := m12.cellAt xx_1
  replace xx_2 := m12.cellAt xx_2
  replace xg0_0 := m12.cellAt xg0_0
  replace xg0_1 := m12.cellAt xg0_1
  replace xg0_2 := m12.cellAt xg0_2
  replace xg0_3 := m12.cellAt xg0_3
  replace ow0 := ow0.mk m12 (by omega) (.inr (.inr (Nat.le_refl _)))
  replace og0 := og0.mk m12 (by omega) (.inr (.inr (Nat.le_refl _)))
  go_wp2_with fail
  refine (markPathPartK _ _ _ _ _ _ w6.heap.size w7.heap.size _ _ _ og0 (by omega) (by omega) (by omega) (by omega)).mono ?_
  rintro e w13 ⟨rfl, oo13, m13⟩
  replace og0 := oo13
  clear oo13
  have M13 := M12.andR m13 (.inl (by omega))
  have z13 := m13.size
  replace k0_0 := m13.cellAtR k0_0 (by omega)
  replace k0_1 := m13.cellAtR k0_1 (by omega)
  replace k0_2 := m13.cellAtR k0_2 (by omega)
  replace xw0_0 := m13.cellAtR xw0_0 (by omega)
  replace xw0_1 := m13.cellAtR xw0_1 (by omega)
  replace xw0_2 := m13.cellAtR xw0_2 (by omega)
  replace xw0_3 := m13.cellAtR xw0_3 (by omega)
  replace xx_0 := m13.cellAtR xx_0 (by omega)
  replace xx_1 := m13.cellAtR xx_1 (by omega)
  replace xx_2 := m13.cellAtR xx_2 (by omega)
  replace xg0_0 := m13.cellAtR xg0_0 (by omega)
  replace xg0_1 := m13.cellAtR xg0_1 (by omega)
  replace xg0_2 := m13.cellAtR xg0_2 (by omega)
  replace xg0_3 := m13.cellAtR xg0_3 (by omega)
  replace ow0 := ow0.mk m13 (by omega) (by omega)
  go_wp2_with fail
  refine (heldPathPartK _ _ _ _ _ _ _ _ _ og0.has (by omega) (by omega) (by omega) (by omega)).mono ?_
  rintro e w14 ⟨rfl, m14⟩
  have M14 := M13.trans m14
  have z14 := m14.size
  replace k0_0 := m14.cellAt k0_0
  replace k0_1 := m14.cellAt k0_1
  replace k0_2 := m14.cellAt k0_2
  replace xw0_0 := m14.cellAt xw0_0
  replace xw0_1 := m14.cellAt xw0_1
  replace xw0_2 := m14.cellAt xw0_2
  replace xw0_3 := m14.cellAt xw0_3
  replace xx_0 := m14.cellAt xx_0
  replace xx_1 := m14.cellAt xx_1
  replace xx_2 := m14.cellAt xx_2
  replace xg0_0 := m14.cellAt xg0_0
  replace xg0_1 := m14.cellAt xg0_1
  replace xg0_2 := m14.cellAt xg0_2
  replace xg0_3 := m14.cellAt xg0_3
  replace ow0 := ow0.mk m14 (by omega) (.inr (.inr (Nat.le_refl _)))
  replace og0 := og0.mk m14 (by omega) (.inr (.inr (Nat.le_refl _)))
  go_wp2_with fail
  refine (toSegmentC _ _ _ _ _ _ w.heap.size _ (h0_2.mk M14 (Nat.le_refl _) (.inr (Nat.le_refl _))) (by omega) (by omega)).mono ?_
  rintro e w15 ⟨b16, rfl, o17, g18, m15⟩
  have M15 := M14.trans m15
  have z15 := m15.size
  replace k0_0 := m15.cellAt k0_0
  replace k0_1 := m15.cellAt k0_1
  replace k0_2 := m15.cellAt k0_2
  replace xw0_0 := m15.cellAt xw0_0
  replace xw0_1 := m15.cellAt xw0_1
  replace xw0_2 := m15.cellAt xw0_2
  replace xw0_3 := m15.cellAt xw0_3
  replace xx_0 := m15.cellAt xx_0
  replace xx_1 := m15.cellAt xx_1
  replace xx_2 := m15.cellAt xx_2
  replace xg0_0 := m15.cellAt xg0_0
  replace xg0_1 := m15.cellAt xg0_1
  replace xg0_2 := m15.cellAt xg0_2
  replace xg0_3 := m15.cellAt xg0_3
  replace ow0 := ow0.mk m15 (by omega) (.inr (.inr (Nat.le_refl _)))
  replace og0 := og0.mk m15 (by omega) (.inr (.inr (Nat.le_refl _)))
  have h19 := o17.has.mono (B' := w15.heap.size) (by omega)
  clear o17
  go_wp2_with fail
  refine (implMkP a0_0 a0_1 _ n0_2 _ _ z0_2 a1 a2 _ h19 (by omega) (by omega) (fun h => by cases h) (Nat.le_refl _)).mono ?_
  rintro e w16 ⟨A16, N16, C16, rfl, hc16, oh0, m16⟩
  clear hc16
  obtain rfl : N3 = N16 := ow0.1.symm.trans oh0.1
  have M16 := M15.trans m16
  have z16 := m16.size
  replace k0_0 := m16.cellAt k0_0
  replace k0_1 := m16.cellAt k0_1
  replace k0_2 := m16.cellAt k0_2
  replace xw0_0 := m16.cellAt xw0_0
  replace xw0_1 := m16.cellAt xw0_1
  replace xw0_2 := m16.cellAt xw0_2
  replace xw0_3 := m16.cellAt xw0_3
  replace xx_0 := m16.cellAt xx_0
  replace xx_1 := m16.cellAt xx_1
  replace xx_2 := m16.cellAt xx_2
  replace xg0_0 := m16.cellAt xg0_0
  replace xg0_1 := m16.cellAt xg0_1
  replace xg0_2 := m16.cellAt xg0_2
  replace xg0_3 := m16.cellAt xg0_3
  replace h19 := h19.mk m16 (by omega) (.inr (Nat.le_refl _))
  replace ow0 := ow0.mk m16 (by omega) (.inr (.inr (Nat.le_refl _)))
  replace og0 := og0.mk m16 (by omega) (.inr (.inr (Nat.le_refl _)))
  have yb20 : w.heap.size < w16.heap.size := by omega
  have yb21 : w3.heap.size < w16.heap.size := by omega
  have yb22 : w5.heap.size < w16.heap.size := by omega
  have yb23 : w7.heap.size < w16.heap.size := by omega
  go_wp2_with fail
  have xh0_0 : (w16.alloc (Obj.cells #[Value.int .i64 (cnd (mpB n0_2 a1 a2) a1), Value.int .i64 (cnd (mpB n0_2 a1 a2) a0_0), Value.int .i64 (cnd (mpB n0_2 a1 a2) (mpBeta a0_1 z0_2 n0_2 a1 a2)), Value.slice A16 N3 C16] 35)).cell? ⟨w16.heap.size, 0, none⟩ = some (.int .i64 (cnd (mpB n0_2 a1 a2) a1)) := by rw [World.cell?_alloc_at _ _ _ _ rfl]; rfl
  have xh0_1 : (w16.alloc (Obj.cells #[Value.int .i64 (cnd (mpB n0_2 a1 a2) a1), Value.int .i64 (cnd (mpB n0_2 a1 a2) a0_0), Value.int .i64 (cnd (mpB n0_2 a1 a2) (mpBeta a0_1 z0_2 n0_2 a1 a2)), Value.slice A16 N3 C16] 35)).cell? ⟨w16.heap.size, 1, none⟩ = some (.int .i64 (cnd (mpB n0_2 a1 a2) a0_0)) := by rw [World.cell?_alloc_at _ _ _ _ rfl]; rfl
  have xh0_2 : (w16.alloc (Obj.cells #[Value.int .i64 (cnd (mpB n0_2 a1 a2) a1), Value.int .i64 (cnd (mpB n0_2 a1 a2) a0_0), Value.int .i64 (cnd (mpB n0_2 a1 a2) (mpBeta a0_1 z0_2 n0_2 a1 a2)), Value.slice A16 N3 C16] 35)).cell? ⟨w16.heap.size, 2, none⟩ = some (.int .i64 (cnd (mpB n0_2 a1 a2) (mpBeta a0_1 z0_2 n0_2 a1 a2))) := by rw [World.cell?_alloc_at _ _ _ _ rfl]; rfl
  have xh0_3 : (w16.alloc (Obj.cells #[Value.int .i64 (cnd (mpB n0_2 a1 a2) a1), Value.int .i64 (cnd (mpB n0_2 a1 a2) a0_0), Value.int .i64 (cnd (mpB n0_2 a1 a2) (mpBeta a0_1 z0_2 n0_2 a1 a2)), Value.slice A16 N3 C16] 35)).cell? ⟨w16.heap.size, 3, none⟩ = some (.slice A16 N3 C16) := by rw [World.cell?_alloc_at _ _ _ _ rfl]; rfl
  have m17 := Mk.alloc w16 (Obj.cells #[Value.int .i64 (cnd (mpB n0_2 a1 a2) a1), Value.int .i64 (cnd (mpB n0_2 a1 a2) a0_0), Value.int .i64 (cnd (mpB n0_2 a1 a2) (mpBeta a0_1 z0_2 n0_2 a1 a2)), Value.slice A16 N3 C16] 35)
  replace k0_0 := m17.cellAt k0_0
  replace k0_1 := m17.cellAt k0_1
  replace k0_2 := m17.cellAt k0_2
  replace xw0_0 := m17.cellAt xw0_0
  replace xw0_1 := m17.cellAt xw0_1
  replace xw0_2 := m17.cellAt xw0_2
  replace xw0_3 := m17.cellAt xw0_3
  replace xx_0 := m17.cellAt xx_0
  replace xx_1 := m17.cellAt xx_1
  replace xx_2 := m17.cellAt xx_2
  replace xg0_0 := m17.cellAt xg0_0
  replace xg0_1 := m17.cellAt xg0_1
  replace xg0_2 := m17.cellAt xg0_2
  replace xg0_3 := m17.cellAt xg0_3
  replace h19 := h19.mk m17 (by omega) (.inr (Nat.le_refl _))
  replace ow0 := ow0.mk m17 (by omega) (.inr (.inr (Nat.le_refl _)))
  replace og0 := og0.mk m17 (by omega) (.inr (.inr (Nat.le_refl _)))
  replace oh0 := oh0.mk m17 (by omega) (.inr (.inr (Nat.le_refl _)))
  have M17 := M16.trans m17
  have z17 := m17.size
  have zz17 : w16.heap.size < (w16.alloc (Obj.cells #[Value.int .i64 (cnd (mpB n0_2 a1 a2) a1), Value.int .i64 (cnd (mpB n0_2 a1 a2) a0_0), Value.int .i64 (cnd (mpB n0_2 a1 a2) (mpBeta a0_1 z0_2 n0_2 a1 a2)), Value.slice A16 N3 C16] 35)).heap.size := by rw [World.size_alloc]; omega
  generalize (w16.alloc (Obj.cells #[Value.int .i64 (cnd (mpB n0_2 a1 a2) a1), Value.int .i64 (cnd (mpB n0_2 a1 a2) a0_0), Value.int .i64 (cnd (mpB n0_2 a1 a2) (mpBeta a0_1 z0_2 n0_2 a1 a2)), Value.slice A16 N3 C16] 35)) = w17 at *
  refine (eqPathPartC _ _ _ _ _ _ _ _ _ _ _ _ oh0.has ow0.has (by omega) (by omega) (by omega)).mono ?_
  rintro e w18 ⟨rfl, m18⟩
  have M18 := M17.trans m18
  have z18 := m18.size
  replace k0_0 := m18.cellAt k0_0
  replace k0_1 := m18.cellAt k0_1
  replace k0_2 := m18.cellAt k0_2
  replace xw0_0 := m18.cellAt xw0_0
  replace xw0_1 := m18.cellAt xw0_1
  replace xw0_2 := m18.cellAt xw0_2
  replace xw0_3 := m18.cellAt xw0_3
  replace xx_0 := m18.cellAt xx_0
  replace xx_1 := m18.cellAt xx_1
  replace xx_2 := m18.cellAt xx_2
  replace xg0_0 := m18.cellAt xg0_0
  replace xg0_1 := m18.cellAt xg0_1
  replace xg0_2 := m18.cellAt xg0_2
  replace xg0_3 := m18.cellAt xg0_3
  replace xh0_0 := m18.cellAt xh0_0
  replace xh0_1 := m18.cellAt xh0_1
  replace xh0_2 := m18.cellAt xh0_2
  replace xh0_3 := m18.cellAt xh0_3
  replace ow0 := ow0.mk m18 (by omega) (.inr (.inr (Nat.le_refl _)))
  replace og0 := og0.mk m18 (by omega) (.inr (.inr (Nat.le_refl _)))
  replace oh0 := oh0.mk m18 (by omega) (.inr (.inr (Nat.le_refl _)))
  go_wp2_with fail
  refine (heldPathPartK _ _ _ _ _ _ _ _ _ og0.has (by omega) (by omega) (by omega) (by omega)).mono ?_
  rintro e w19 ⟨rfl, m19⟩
  have M19 := M18.trans m19
  have z19 := m19.size
  replace k0_0 := m19.cellAt k0_0
  replace k0_1 := m19.cellAt k0_1
  replace k0_2 := m19.cellAt k0_2
  replace xw0_0 := m19.cellAt xw0_0
  replace xw0_1 := m19.cellAt xw0_1
  replace xw0_2 := m19.cellAt xw0_2
  replace xw0_3 := m19.cellAt xw0_3
  replace xx_0 := m19.cellAt xx_0
  replace xx_1 := m19.cellAt xx_1
  replace xx_2 := m19.cellAt xx_2
  replace xg0_0 := m19.cellAt xg0_0
  replace xg0_1 := m19.cellAt xg0_1
  replace xg0_2 := m19.cellAt xg0_2
  replace xg0_3 := m19.cellAt xg0_3
  replace xh0_0 := m19.cellAt xh0_0
  replace xh0_1 := m19.cellAt xh0_1
  replace xh0_2 := m19.cellAt xh0_2
  replace xh0_3 := m19.cellAt xh0_3
  replace ow0 := ow0.mk m19 (by omega) (.inr (.inr (Nat.le_refl _)))
  replace og0 := og0.mk m19 (by omega) (.inr (.inr (Nat.le_refl _)))
  replace oh0 := oh0.mk m19 (by omega) (.inr (.inr (Nat.le_refl _)))
  go_wp2_with fail
  go_ret
  exact ⟨rfl, M19.below0⟩

set_option maxRecDepth 100000 in
theorem lifted (os : Os) (started : os.Started) (H : Type) (enc : TypeId × Value → H) :
    ReturnsInHanded {} Try.checked os 4 .any (Rows.fnExactMakePartSpec.pre6 enc Try.prog Try.f4 Rows.fnExactMakePartRow.domain false) (Rows.fnExactMakePartSpec.post enc Try.prog Try.f4 false true false false) := by
  refine returnsInHanded_of_change (C := Try.checked) own started (by kernel_rfl) Try.func4
    (ChangeSpec.witness6 (enc := enc) (C := Try.checked) false ⟨#[], #[.agg #[.int .i64 0, .int .i64 0, .slice none 0 0], .int .i64 0, .int .i64 0], []⟩ 8 (by kernel_rfl) (by kernel_rfl) (by kernel_rfl) (by kernel_rfl)) ?_
  intro W base args ds gs before hval0 hW hcnd _
  have hval : ∀ (j : Nat) t v, Try.f4.params[j]? = some t → args[j]? = some v → Value.okWide Try.prog W .any base t v := hval0
  have hW' := hW
  obtain ⟨p, q, hA0, hV, rfl, hfz, hnd⟩ := hW
  have hA : DataW.TrodAll enc Try.prog W 0 (fun _ => true) true Try.f4.params.toList args.toList ds p := hA0
  rw [Try.params4] at hA hval
  obtain ⟨v0, vs0, d0, ds0, p0, q0, hargs, rfl, rfl, h0, r0⟩ := trodAll_cons hA
  obtain ⟨v1, vs1, d1, ds1, p1, q1, rfl, rfl, rfl, h1, r1⟩ := trodAll_cons r0
  obtain ⟨v2, vs2, d2, ds2, p2, q2, rfl, rfl, rfl, h2, r2⟩ := trodAll_cons r1
  obtain ⟨rfl, rfl, rfl⟩ := trodAll_nil r2
  obtain rfl : args = #[v0, v1, v2] := by cases args; simp_all
  obtain ⟨rfl, rfl⟩ := trodVars_none hV
  have k0 := h0
  have lt0 : ∀ x ∈ p0, x.block < W.heap.size := by obtain ⟨m, hm⟩ := k0; exact DataW.trod_lt m _ _ _ hm
  obtain ⟨cs0, rfl, hcs0, hf0⟩ := open_agg Try.underlying24 (by kernel_rfl) (by kernel_rfl) (hval 0 24 v0 rfl rfl) h0
  obtain ⟨_, _, _, e0_0, q0_0⟩ := hf0 0 _ rfl
  obtain ⟨a0_0, rfl, w0_0⟩ := one_int Try.underlying3 q0_0
  obtain ⟨_, _, _, e0_1, q0_1⟩ := hf0 1 _ rfl
  obtain ⟨a0_1, rfl, w0_1⟩ := one_int Try.underlying3 q0_1
  obtain ⟨_, _, _, e0_2, q0_2⟩ := hf0 2 _ rfl
  obtain ⟨a0_2, n0_2, c0_2, z0_2, rfl, m0_2, h0_2, f0_2⟩ := openHopS q0_2
  obtain rfl : cs0 = #[.int .i64 a0_0, .int .i64 a0_1, .slice a0_2 n0_2 c0_2] := arr_of [.int .i64 a0_0, .int .i64 a0_1, .slice a0_2 n0_2 c0_2] hcs0 (fun j hj => by match j, hj with | 0, _ => exact e0_0 | 1, _ => exact e0_1 | 2, _ => exact e0_2)
  obtain ⟨a1, rfl, rfl, rfl, w1⟩ := open_int Try.underlying3 (hval 1 3 v1 rfl rfl) h1
  obtain ⟨a2, rfl, rfl, rfl, w2⟩ := open_int Try.underlying3 (hval 2 3 v2 rfl rfl) h2
  clear hA0 hval0
  refine (walk a0_0 a0_1 a0_2 n0_2 c0_2 z0_2 a1 a2 W w0_0 w0_1 h0_2 m0_2 f0_2 w1 w2).mono fun e W' ⟨he, bel⟩ => ?_
  subst he
  exact ⟨_, rfl, _, _, _, [], _, [], hW', trodAll_mk1 (shut_bool Try.underlying4 _), (trodAll_cons_mk (Below.trod laidOut (by kernel_rfl) (of_decide_eq_true (by kernel_rfl)) k0 bel lt0) (trodAll_cons_mk (shut_int Try.underlying3 w1) (trodAll_cons_mk (shut_int Try.underlying3 w2) trodAll_mk0))), rfl, bel.frame _, fun h => by cases h⟩

theorem over : Rows.fnExactMakePartRow.holds Try.pinned (OpenSpec.ofChange Rows.fnExactMakePartSpec) :=
  OpenClaim.holds_of_wide 4 Try.f4 rfl rfl rfl rfl rfl rfl rfl ⟨rfl, rfl, rfl, rfl, rfl⟩ rfl rfl rfl rfl rfl (by kernel_rfl) Try.func4 (by kernel_rfl)
    (of_decide_eq_true (by kernel_rfl)) (by unfold Func.isWrapper; first | (rw [if_pos (by decide +kernel)]; kernel_rfl) | (rw [if_neg (by decide +kernel)]; exact ⟨rfl, rfl⟩))
    (fun os started H enc _ => lifted os started H enc)

theorem proved : Rows.FnExactMakePartSaid := over
#print axioms proved
end Go.Proofs.Ytbkbkpnpllemfaa.fnExactMakePart
