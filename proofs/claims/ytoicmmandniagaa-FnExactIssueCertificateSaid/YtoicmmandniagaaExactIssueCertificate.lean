
/- For every topology and every five numbers, the law on IssueCertificate returns true; no further condition. -/
import Derived.Test.YtoicmmandniagaaRows
import Derived.WalkKit
import Derived.ProofKit
import Derived.OpenShut
import Derived.ShutString
import Derived.ChangeOld
import Derived.Below
import Derived.Test.YtoicmmandniagaaOAS
import Derived.Test.YtoicmmandniagaaZAS
import Derived.Test.YtoicmmandniagaaOLink
import Derived.Test.YtoicmmandniagaaZLink
import Derived.Test.YtoicmmandniagaaStruct
import Derived.Deep.RegionHeld3
import Derived.Test.YtoicmmandniagaaCert
import Derived.Test.YtoicmmandniagaaCTopology
import Derived.Test.YtoicmmandniagaaCCertificate
namespace Go.Proofs.Ytoicmmandniagaa.fnExactIssueCertificate
open Go.ChangeShapes Go.WideShapes Go.ChangeAt Go.RowKit
open Go.ChangeMaps (open_string shut_string)
set_option linter.unusedVariables false

theorem own : ownKnob Try.prog.godebug = none := by kernel_rfl
theorem laidOut : laidOutB Try.prog = true := by kernel_rfl

set_option maxRecDepth 100000 in
set_option maxHeartbeats 4000000 in
theorem walk (a0_0 : Option Addr) (n0_0 c0_0 : Nat) (z0_0 : List TAS) (a0_1 : Option Addr) (n0_1 c0_1 : Nat) (z0_1 : List TLink) (a1 : Int) (a2 : Int) (a3 : Int) (a4 : Int) (a5 : Int) (w : World) (h0_0 : HasAS w w.heap.size a0_0 n0_0 z0_0) (m0_0 : n0_0 ≤ 9223372036854775807) (f0_0 : ∀ x ∈ z0_0, TAS.fits x) (h0_1 : HasLink w w.heap.size a0_1 n0_1 z0_1) (m0_1 : n0_1 ≤ 9223372036854775807) (f0_1 : ∀ x ∈ z0_1, TLink.fits x) (w1 : (Lit.int .i64 a1).wf = true) (w2 : (Lit.int .i64 a2).wf = true) (w3 : (Lit.int .i64 a3).wf = true) (w4 : (Lit.int .i64 a4).wf = true) (w5 : (Lit.int .i64 a5).wf = true) :
    Calls Try.prog 4 #[.agg #[.slice a0_0 n0_0 c0_0, .slice a0_1 n0_1 c0_1], .int .i64 a1, .int .i64 a2, .int .i64 a3, .int .i64 a4, .int .i64 a5] w fun e w' => e = .returned (.bool true) ∧ Below w.heap.size w w' := by
  have wx1 := w1
  have wx3 := w3
  have wx4 := w4
  have wx5 := w5
  by_cases hbig0 : (1048576 : Int) < (n0_0 : Int) + (n0_1 : Int)
  · go_enter Try.func4, Try.ntmps4
    go_wp2_with fail
    have M0 : Mk0 w (w.alloc (Obj.cells #[Value.slice a0_0 n0_0 c0_0, Value.slice a0_1 n0_1 c0_1] 34)) := (Mk.alloc w _)
    have k0_0 : (w.alloc (Obj.cells #[Value.slice a0_0 n0_0 c0_0, Value.slice a0_1 n0_1 c0_1] 34)).cell? ⟨w.heap.size, 0, none⟩ = some (.slice a0_0 n0_0 c0_0) := by simp [go_sem]
    have k0_1 : (w.alloc (Obj.cells #[Value.slice a0_0 n0_0 c0_0, Value.slice a0_1 n0_1 c0_1] 34)).cell? ⟨w.heap.size, 1, none⟩ = some (.slice a0_1 n0_1 c0_1) := by simp [go_sem]
    refine (szTopologyB _ _ _ _ _ _ _ _ (by omega) (by omega) (by omega) m0_0 m0_1).mono ?_
    rintro e w1 ⟨rfl, m1⟩
    go_wp2_with fail
    go_ret
    exact ⟨rfl, (M0.trans m1).below0⟩
  have hn0 : (n0_0 : Int) + (n0_1 : Int) ≤ (1048576 : Int) := by omega
  clear hbig0
  go_enter Try.func4, Try.ntmps4
  go_wp2_with fail
  have M0 : Mk0 w (w.alloc (Obj.cells #[Value.slice a0_0 n0_0 c0_0, Value.slice a0_1 n0_1 c0_1] 34)) := (Mk.alloc w _)
  have k0_0 : (w.alloc (Obj.cells #[Value.slice a0_0 n0_0 c0_0, Value.slice a0_1 n0_1 c0_1] 34)).cell? ⟨w.heap.size, 0, none⟩ = some (.slice a0_0 n0_0 c0_0) := by simp [go_sem]
  have k0_1 : (w.alloc (Obj.cells #[Value.slice a0_0 n0_0 c0_0, Value.slice a0_1 n0_1 c0_1] 34)).cell? ⟨w.heap.size, 1, none⟩ = some (.slice a0_1 n0_1 c0_1) := by simp [go_sem]
  refine (szTopologyC _ _ _ _ _ _ _ _ (by omega) (by omega) (by omega)).mono ?_
  rintro e w1 ⟨l1, hl1, rfl, m1⟩
  have M1 := M0.trans m1
  replace k0_0 := m1.cellAt k0_0
  replace k0_1 := m1.cellAt k0_1
  have z1 := m1.size
  simp only [World.size_alloc] at z1
  go_wp2_with fail
  refine (toTopologyC _ _ _ _ _ _ _ _ w.heap.size _ (h0_0.mk M1 (Nat.le_refl _) (.inr (Nat.le_refl _))) (h0_1.mk M1 (Nat.le_refl _) (.inr (Nat.le_refl _))) (by omega) (by omega) (by omega)).mono ?_
  rintro e w2 ⟨b1, b2, d3, rfl, o4, o5, g6, g7, m2⟩
  have M2 := M1.trans m2
  have z2 := m2.size
  replace k0_0 := m2.cellAt k0_0
  replace k0_1 := m2.cellAt k0_1
  have h8 := o4.has.mono (B' := w2.heap.size) (by omega)
  clear o4
  have h9 := o5.has.mono (B' := w2.heap.size) (by omega)
  clear o5
  go_wp2_with fail
  refine (specIssue _ _ _ _ _ _ _ z0_0 a1 a2 a3 a4 a5 _ h8 (by omega) (by omega) f0_0 wx1 wx3 wx4 wx5).mono ?_
  rintro e w3 ⟨rfl, m3⟩
  have M3 := M2.trans m3
  have z3 := m3.size
  replace k0_0 := m3.cellAt k0_0
  replace k0_1 := m3.cellAt k0_1
  replace h8 := h8.mk m3 (by omega) (.inr (Nat.le_refl _))
  replace h9 := h9.mk m3 (by omega) (.inr (Nat.le_refl _))
  have yb10 : w.heap.size < w3.heap.size := by omega
  go_wp2_with fail
  have xw0_0 : (w3.alloc (Obj.cells #[Value.int .i64 (icR z0_0 n0_0 a1 a2 a3 a4 a5 0), Value.int .i64 (icR z0_0 n0_0 a1 a2 a3 a4 a5 1), Value.int .i64 (icR z0_0 n0_0 a1 a2 a3 a4 a5 2), Value.int .i64 (icR z0_0 n0_0 a1 a2 a3 a4 a5 3), Value.int .i64 (icR z0_0 n0_0 a1 a2 a3 a4 a5 4), Value.int .i64 (icR z0_0 n0_0 a1 a2 a3 a4 a5 5), Value.int .i64 (icR z0_0 n0_0 a1 a2 a3 a4 a5 6)] 39)).cell? ⟨w3.heap.size, 0, none⟩ = some (.int .i64 (icR z0_0 n0_0 a1 a2 a3 a4 a5 0)) := by rw [World.cell?_alloc_at _ _ _ _ rfl]; rfl
  have xw0_1 : (w3.alloc (Obj.cells #[Value.int .i64 (icR z0_0 n0_0 a1 a2 a3 a4 a5 0), Value.int .i64 (icR z0_0 n0_0 a1 a2 a3 a4 a5 1), Value.int .i64 (icR z0_0 n0_0 a1 a2 a3 a4 a5 2), Value.int .i64 (icR z0_0 n0_0 a1 a2 a3 a4 a5 3), Value.int .i64 (icR z0_0 n0_0 a1 a2 a3 a4 a5 4), Value.int .i64 (icR z0_0 n0_0 a1 a2 a3 a4 a5 5), Value.int .i64 (icR z0_0 n0_0 a1 a2 a3 a4 a5 6)] 39)).cell? ⟨w3.heap.size, 1, none⟩ = some (.int .i64 (icR z0_0 n0_0 a1 a2 a3 a4 a5 1)) := by rw [World.cell?_alloc_at _ _ _ _ rfl]; rfl
  have xw0_2 : (w3.alloc (Obj.cells #[Value.int .i64 (icR z0_0 n0_0 a1 a2 a3 a4 a5 0), Value.int .i64 (icR z0_0 n0_0 a1 a2 a3 a4 a5 1), Value.int .i64 (icR z0_0 n0_0 a1 a2 a3 a4 a5 2), Value.int .i64 (icR z0_0 n0_0 a1 a2 a3 a4 a5 3), Value.int .i64 (icR z0_0 n0_0 a1 a2 a3 a4 a5 4), Value.int .i64 (icR z0_0 n0_0 a1 a2 a3 a4 a5 5), Value.int .i64 (icR z0_0 n0_0 a1 a2 a3 a4 a5 6)] 39)).cell? ⟨w3.heap.size, 2, none⟩ = some (.int .i64 (icR z0_0 n0_0 a1 a2 a3 a4 a5 2)) := by rw [World.cell?_alloc_at _ _ _ _ rfl]; rfl
  have xw0_3 : (w3.alloc (Obj.cells #[Value.int .i64 (icR z0_0 n0_0 a1 a2 a3 a4 a5 0), Value.int .i64 (icR z0_0 n0_0 a1 a2 a3 a4 a5 1), Value.int .i64 (icR z0_0 n0_0 a1 a2 a3 a4 a5 2), Value.int .i64 (icR z0_0 n0_0 a1 a2 a3 a4 a5 3), Value.int .i64 (icR z0_0 n0_0 a1 a2 a3 a4 a5 4), Value.int .i64 (icR z0_0 n0_0 a1 a2 a3 a4 a5 5), Value.int .i64 (icR z0_0 n0_0 a1 a2 a3 a4 a5 6)] 39)).cell? ⟨w3.heap.size, 3, none⟩ = some (.int .i64 (icR z0_0 n0_0 a1 a2 a3 a4 a5 3)) := by rw [World.cell?_alloc_at _ _ _ _ rfl]; rfl
  have xw0_4 : (w3.alloc (Obj.cells #[Value.int .i64 (icR z0_0 n0_0 a1 a2 a3 a4 a5 0), Value.int .i64 (icR z0_0 n0_0 a1 a2 a3 a4 a5 1), Value.int .i64 (icR z0_0 n0_0 a1 a2 a3 a4 a5 2), Value.int .i64 (icR z0_0 n0_0 a1 a2 a3 a4 a5 3), Value.int .i64 (icR z0_0 n0_0 a1 a2 a3 a4 a5 4), Value.int .i64 (icR z0_0 n0_0 a1 a2 a3 a4 a5 5), Value.int .i64 (icR z0_0 n0_0 a1 a2 a3 a4 a5 6)] 39)).cell? ⟨w3.heap.size, 4, none⟩ = some (.int .i64 (icR z0_0 n0_0 a1 a2 a3 a4 a5 4)) := by rw [World.cell?_alloc_at _ _ _ _ rfl]; rfl
  have xw0_5 : (w3.alloc (Obj.cells #[Value.int .i64 (icR z0_0 n0_0 a1 a2 a3 a4 a5 0), Value.int .i64 (icR z0_0 n0_0 a1 a2 a3 a4 a5 1), Value.int .i64 (icR z0_0 n0_0 a1 a2 a3 a4 a5 2), Value.int .i64 (icR z0_0 n0_0 a1 a2 a3 a4 a5 3), Value.int .i64 (icR z0_0 n0_0 a1 a2 a3 a4 a5 4), Value.int .i64 (icR z0_0 n0_0 a1 a2 a3 a4 a5 5), Value.int .i64 (icR z0_0 n0_0 a1 a2 a3 a4 a5 6)] 39)).cell? ⟨w3.heap.size, 5, none⟩ = some (.int .i64 (icR z0_0 n0_0 a1 a2 a3 a4 a5 5)) := by rw [World.cell?_alloc_at _ _ _ _ rfl]; rfl
  have xw0_6 : (w3.alloc (Obj.cells #[Value.int .i64 (icR z0_0 n0_0 a1 a2 a3 a4 a5 0), Value.int .i64 (icR z0_0 n0_0 a1 a2 a3 a4 a5 1), Value.int .i64 (icR z0_0 n0_0 a1 a2 a3 a4 a5 2), Value.int .i64 (icR z0_0 n0_0 a1 a2 a3 a4 a5 3), Value.int .i64 (icR z0_0 n0_0 a1 a2 a3 a4 a5 4), Value.int .i64 (icR z0_0 n0_0 a1 a2 a3 a4 a5 5), Value.int .i64 (icR z0_0 n0_0 a1 a2 a3 a4 a5 6)] 39)).cell? ⟨w3.heap.size, 6, none⟩ = some (.int .i64 (icR z0_0 n0_0 a1 a2 a3 a4 a5 6)) := by rw [World.cell?_alloc_at _ _ _ _ rfl]; rfl
  have m4 := Mk.alloc w3 (Obj.cells #[Value.int .i64 (icR z0_0 n0_0 a1 a2 a3 a4 a5 0), Value.int .i64 (icR z0_0 n0_0 a1 a2 a3 a4 a5 1), Value.int .i64 (icR z0_0 n0_0 a1 a2 a3 a4 a5 2), Value.int .i64 (icR z0_0 n0_0 a1 a2 a3 a4 a5 3), Value.int .i64 (icR z0_0 n0_0 a1 a2 a3 a4 a5 4), Value.int .i64 (icR z0_0 n0_0 a1 a2 a3 a4 a5 5), Value.int .i64 (icR z0_0 n0_0 a1 a2 a3 a4 a5 6)] 39)
  replace k0_0 := m4.cellAt k0_0
  replace k0_1 := m4.cellAt k0_1
  replace h8 := h8.mk m4 (by omega) (.inr (Nat.le_refl _))
  replace h9 := h9.mk m4 (by omega) (.inr (Nat.le_refl _))
  have M4 := M3.trans m4
  have z4 := m4.size
  have zz4 : w3.heap.size < (w3.alloc (Obj.cells #[Value.int .i64 (icR z0_0 n0_0 a1 a2 a3 a4 a5 0), Value.int .i64 (icR z0_0 n0_0 a1 a2 a3 a4 a5 1), Value.int .i64 (icR z0_0 n0_0 a1 a2 a3 a4 a5 2), Value.int .i64 (icR z0_0 n0_0 a1 a2 a3 a4 a5 3), Value.int .i64 (icR z0_0 n0_0 a1 a2 a3 a4 a5 4), Value.int .i64 (icR z0_0 n0_0 a1 a2 a3 a4 a5 5), Value.int .i64 (icR z0_0 n0_0 a1 a2 a3 a4 a5 6)] 39)).heap.size := by rw [World.size_alloc]; omega
  generalize (w3.alloc (Obj.cells #[Value.int .i64 (icR z0_0 n0_0 a1 a2 a3 a4 a5 0), Value.int .i64 (icR z0_0 n0_0 a1 a2 a3 a4 a5 1), Value.int .i64 (icR z0_0 n0_0 a1 a2 a3 a4 a5 2), Value.int .i64 (icR z0_0 n0_0 a1 a2 a3 a4 a5 3), Value.int .i64 (icR z0_0 n0_0 a1 a2 a3 a4 a5 4), Value.int .i64 (icR z0_0 n0_0 a1 a2 a3 a4 a5 5), Value.int .i64 (icR z0_0 n0_0 a1 a2 a3 a4 a5 6)] 39)) = w4 at *
  refine (toTopologyC _ _ _ _ _ _ _ _ w.heap.size _ (h0_0.mk M4 (Nat.le_refl _) (.inr (Nat.le_refl _))) (h0_1.mk M4 (Nat.le_refl _) (.inr (Nat.le_refl _))) (by omega) (by omega) (by omega)).mono ?_
  rintro e w5 ⟨b11, b12, d13, rfl, o14, o15, g16, g17, m5⟩
  have M5 := M4.trans m5
  have z5 := m5.size
  replace k0_0 := m5.cellAt k0_0
  replace k0_1 := m5.cellAt k0_1
  replace xw0_0 := m5.cellAt xw0_0
  replace xw0_1 := m5.cellAt xw0_1
  replace xw0_2 := m5.cellAt xw0_2
  replace xw0_3 := m5.cellAt xw0_3
  replace xw0_4 := m5.cellAt xw0_4
  replace xw0_5 := m5.cellAt xw0_5
  replace xw0_6 := m5.cellAt xw0_6
  have h18 := o14.has.mono (B' := w5.heap.size) (by omega)
  clear o14
  have h19 := o15.has.mono (B' := w5.heap.size) (by omega)
  clear o15
  go_wp2_with fail
  have xx0_0 : (w5.alloc (Obj.cells #[Value.slice (some ⟨b11, 0, none⟩) n0_0 n0_0, Value.slice (some ⟨b12, 0, none⟩) n0_1 n0_1] 44)).cell? ⟨w5.heap.size, 0, none⟩ = some (.slice (some ⟨b11, 0, none⟩) n0_0 n0_0) := by rw [World.cell?_alloc_at _ _ _ _ rfl]; rfl
  have xx0_1 : (w5.alloc (Obj.cells #[Value.slice (some ⟨b11, 0, none⟩) n0_0 n0_0, Value.slice (some ⟨b12, 0, none⟩) n0_1 n0_1] 44)).cell? ⟨w5.heap.size, 1, none⟩ = some (.slice (some ⟨b12, 0, none⟩) n0_1 n0_1) := by rw [World.cell?_alloc_at _ _ _ _ rfl]; rfl
  have m6 := Mk.alloc w5 (Obj.cells #[Value.slice (some ⟨b11, 0, none⟩) n0_0 n0_0, Value.slice (some ⟨b12, 0, none⟩) n0_1 n0_1] 44)
  replace k0_0 := m6.cellAt k0_0
  replace k0_1 := m6.cellAt k0_1
  replace xw0_0 := m6.cellAt xw0_0
  replace xw0_1 := m6.cellAt xw0_1
  replace xw0_2 := m6.cellAt xw0_2
  replace xw0_3 := m6.cellAt xw0_3
  replace xw0_4 := m6.cellAt xw0_4
  replace xw0_5 := m6.cellAt xw0_5
  replace xw0_6 := m6.cellAt xw0_6
  replace h18 := h18.mk m6 (by omega) (.inr (Nat.le_refl _))
  replace h19 := h19.mk m6 (by omega) (.inr (Nat.le_refl _))
  have M6 := M5.trans m6
  have z6 := m6.size
  have zz6 : w5.heap.size < (w5.alloc (Obj.cells #[Value.slice (some ⟨b11, 0, none⟩) n0_0 n0_0, Value.slice (some ⟨b12, 0, none⟩) n0_1 n0_1] 44)).heap.size := by rw [World.size_alloc]; omega
  generalize (w5.alloc (Obj.cells #[Value.slice (some ⟨b11, 0, none⟩) n0_0 n0_0, Value.slice (some ⟨b12, 0, none⟩) n0_1 n0_1] 44)) = w6 at *
  refine (implIssue _ _ _ _ _ _ _ z0_0 a1 a2 a3 a4 a5 _ h18 (by omega) (by omega) f0_0 wx1 wx3 wx4 wx5).mono ?_
  rintro e w7 ⟨rfl, m7⟩
  have M7 := M6.trans m7
  have z7 := m7.size
  replace k0_0 := m7.cellAt k0_0
  replace k0_1 := m7.cellAt k0_1
  replace xw0_0 := m7.cellAt xw0_0
  replace xw0_1 := m7.cellAt xw0_1
  replace xw0_2 := m7.cellAt xw0_2
  replace xw0_3 := m7.cellAt xw0_3
  replace xw0_4 := m7.cellAt xw0_4
  replace xw0_5 := m7.cellAt xw0_5
  replace xw0_6 := m7.cellAt xw0_6
  replace xx0_0 := m7.cellAt xx0_0
  replace xx0_1 := m7.cellAt xx0_1
  replace h18 := h18.mk m7 (by omega) (.inr (Nat.le_refl _))
  replace h19 := h19.mk m7 (by omega) (.inr (Nat.le_refl _))
  have yb20 : w.heap.size < w7.heap.size := by omega
  have yb21 : w3.heap.size < w7.heap.size := by omega
  have yb22 : w5.heap.size < w7.heap.size := by omega
  go_wp2_with fail
  have xg0_0 : (w7.alloc (Obj.cells #[Value.int .i64 (icR z0_0 n0_0 a1 a2 a3 a4 a5 0), Value.int .i64 (icR z0_0 n0_0 a1 a2 a3 a4 a5 1), Value.int .i64 (icR z0_0 n0_0 a1 a2 a3 a4 a5 2), Value.int .i64 (icR z0_0 n0_0 a1 a2 a3 a4 a5 3), Value.int .i64 (icR z0_0 n0_0 a1 a2 a3 a4 a5 4), Value.int .i64 (icR z0_0 n0_0 a1 a2 a3 a4 a5 5), Value.int .i64 (icR z0_0 n0_0 a1 a2 a3 a4 a5 6)] 39)).cell? ⟨w7.heap.size, 0, none⟩ = some (.int .i64 (icR z0_0 n0_0 a1 a2 a3 a4 a5 0)) := by rw [World.cell?_alloc_at _ _ _ _ rfl]; rfl
  have xg0_1 : (w7.alloc (Obj.cells #[Value.int .i64 (icR z0_0 n0_0 a1 a2 a3 a4 a5 0), Value.int .i64 (icR z0_0 n0_0 a1 a2 a3 a4 a5 1), Value.int .i64 (icR z0_0 n0_0 a1 a2 a3 a4 a5 2), Value.int .i64 (icR z0_0 n0_0 a1 a2 a3 a4 a5 3), Value.int .i64 (icR z0_0 n0_0 a1 a2 a3 a4 a5 4), Value.int .i64 (icR z0_0 n0_0 a1 a2 a3 a4 a5 5), Value.int .i64 (icR z0_0 n0_0 a1 a2 a3 a4 a5 6)] 39)).cell? ⟨w7.heap.size, 1, none⟩ = some (.int .i64 (icR z0_0 n0_0 a1 a2 a3 a4 a5 1)) := by rw [World.cell?_alloc_at _ _ _ _ rfl]; rfl
  have xg0_2 : (w7.alloc (Obj.cells #[Value.int .i64 (icR z0_0 n0_0 a1 a2 a3 a4 a5 0), Value.int .i64 (icR z0_0 n0_0 a1 a2 a3 a4 a5 1), Value.int .i64 (icR z0_0 n0_0 a1 a2 a3 a4 a5 2), Value.int .i64 (icR z0_0 n0_0 a1 a2 a3 a4 a5 3), Value.int .i64 (icR z0_0 n0_0 a1 a2 a3 a4 a5 4), Value.int .i64 (icR z0_0 n0_0 a1 a2 a3 a4 a5 5), Value.int .i64 (icR z0_0 n0_0 a1 a2 a3 a4 a5 6)] 39)).cell? ⟨w7.heap.size, 2, none⟩ = some (.int .i64 (icR z0_0 n0_0 a1 a2 a3 a4 a5 2)) := by rw [World.cell?_alloc_at _ _ _ _ rfl]; rfl
  have xg0_3 : (w7.alloc (Obj.cells #[Value.int .i64 (icR z0_0 n0_0 a1 a2 a3 a4 a5 0), Value.int .i64 (icR z0_0 n0_0 a1 a2 a3 a4 a5 1), Value.int .i64 (icR z0_0 n0_0 a1 a2 a3 a4 a5 2), Value.int .i64 (icR z0_0 n0_0 a1 a2 a3 a4 a5 3), Value.int .i64 (icR z0_0 n0_0 a1 a2 a3 a4 a5 4), Value.int .i64 (icR z0_0 n0_0 a1 a2 a3 a4 a5 5), Value.int .i64 (icR z0_0 n0_0 a1 a2 a3 a4 a5 6)] 39)).cell? ⟨w7.heap.size, 3, none⟩ = some (.int .i64 (icR z0_0 n0_0 a1 a2 a3 a4 a5 3)) := by rw [World.cell?_alloc_at _ _ _ _ rfl]; rfl
  have xg0_4 : (w7.alloc (Obj.cells #[Value.int .i64 (icR z0_0 n0_0 a1 a2 a3 a4 a5 0), Value.int .i64 (icR z0_0 n0_0 a1 a2 a3 a4 a5 1), Value.int .i64 (icR z0_0 n0_0 a1 a2 a3 a4 a5 2), Value.int .i64 (icR z0_0 n0_0 a1 a2 a3 a4 a5 3), Value.int .i64 (icR z0_0 n0_0 a1 a2 a3 a4 a5 4), Value.int .i64 (icR z0_0 n0_0 a1 a2 a3 a4 a5 5), Value.int .i64 (icR z0_0 n0_0 a1 a2 a3 a4 a5 6)] 39)).cell? ⟨w7.heap.size, 4, none⟩ = some (.int .i64 (icR z0_0 n0_0 a1 a2 a3 a4 a5 4)) := by rw [World.cell?_alloc_at _ _ _ _ rfl]; rfl
  have xg0_5 : (w7.alloc (Obj.cells #[Value.int .i64 (icR z0_0 n0_0 a1 a2 a3 a4 a5 0), Value.int .i64 (icR z0_0 n0_0 a1 a2 a3 a4 a5 1), Value.int .i64 (icR z0_0 n0_0 a1 a2 a3 a4 a5 2), Value.int .i64 (icR z0_0 n0_0 a1 a2 a3 a4 a5 3), Value.int .i64 (icR z0_0 n0_0 a1 a2 a3 a4 a5 4), Value.int .i64 (icR z0_0 n0_0 a1 a2 a3 a4 a5 5), Value.int .i64 (icR z0_0 n0_0 a1 a2 a3 a4 a5 6)] 39)).cell? ⟨w7.heap.size, 5, none⟩ = some (.int .i64 (icR z0_0 n0_0 a1 a2 a3 a4 a5 5)) := by rw [World.cell?_alloc_at _ _ _ _ rfl]; rfl
  have xg0_6 : (w7.alloc (Obj.cells #[Value.int .i64 (icR z0_0 n0_0 a1 a2 a3 a4 a5 0), Value.int .i64 (icR z0_0 n0_0 a1 a2 a3 a4 a5 1), Value.int .i64 (icR z0_0 n0_0 a1 a2 a3 a4 a5 2), Value.int .i64 (icR z0_0 n0_0 a1 a2 a3 a4 a5 3), Value.int .i64 (icR z0_0 n0_0 a1 a2 a3 a4 a5 4), Value.int .i64 (icR z0_0 n0_0 a1 a2 a3 a4 a5 5), Value.int .i64 (icR z0_0 n0_0 a1 a2 a3 a4 a5 6)] 39)).cell? ⟨w7.heap.size, 6, none⟩ = some (.int .i64 (icR z0_0 n0_0 a1 a2 a3 a4 a5 6)) := by rw [World.cell?_alloc_at _ _ _ _ rfl]; rfl
  have m8 := Mk.alloc w7 (Obj.cells #[Value.int .i64 (icR z0_0 n0_0 a1 a2 a3 a4 a5 0), Value.int .i64 (icR z0_0 n0_0 a1 a2 a3 a4 a5 1), Value.int .i64 (icR z0_0 n0_0 a1 a2 a3 a4 a5 2), Value.int .i64 (icR z0_0 n0_0 a1 a2 a3 a4 a5 3), Value.int .i64 (icR z0_0 n0_0 a1 a2 a3 a4 a5 4), Value.int .i64 (icR z0_0 n0_0 a1 a2 a3 a4 a5 5), Value.int .i64 (icR z0_0 n0_0 a1 a2 a3 a4 a5 6)] 39)
  replace k0_0 := m8.cellAt k0_0
  replace k0_1 := m8.cellAt k0_1
  replace xw0_0 := m8.cellAt xw0_0
  replace xw0_1 := m8.cellAt xw0_1
  replace xw0_2 := m8.cellAt xw0_2
  replace xw0_3 := m8.cellAt xw0_3
  replace xw0_4 := m8.cellAt xw0_4
  replace xw0_5 := m8.cellAt xw0_5
  replace xw0_6 := m8.cellAt xw0_6
  replace xx0_0 := m8.cellAt xx0_0
  replace xx0_1 := m8.cellAt xx0_1
  replace h18 := h18.mk m8 (by omega) (.inr (Nat.le_refl _))
  replace h19 := h19.mk m8 (by omega) (.inr (Nat.le_refl _))
  have M8 := M7.trans m8
  have z8 := m8.size
  have zz8 : w7.heap.size < (w7.alloc (Obj.cells #[Value.int .i64 (icR z0_0 n0_0 a1 a2 a3 a4 a5 0), Value.int .i64 (icR z0_0 n0_0 a1 a2 a3 a4 a5 1), Value.int .i64 (icR z0_0 n0_0 a1 a2 a3 a4 a5 2), Value.int .i64 (icR z0_0 n0_0 a1 a2 a3 a4 a5 3), Value.int .i64 (icR z0_0 n0_0 a1 a2 a3 a4 a5 4), Value.int .i64 (icR z0_0 n0_0 a1 a2 a3 a4 a5 5), Value.int .i64 (icR z0_0 n0_0 a1 a2 a3 a4 a5 6)] 39)).heap.size := by rw [World.size_alloc]; omega
  generalize (w7.alloc (Obj.cells #[Value.int .i64 (icR z0_0 n0_0 a1 a2 a3 a4 a5 0), Value.int .i64 (icR z0_0 n0_0 a1 a2 a3 a4 a5 1), Value.int .i64 (icR z0_0 n0_0 a1 a2 a3 a4 a5 2), Value.int .i64 (icR z0_0 n0_0 a1 a2 a3 a4 a5 3), Value.int .i64 (icR z0_0 n0_0 a1 a2 a3 a4 a5 4), Value.int .i64 (icR z0_0 n0_0 a1 a2 a3 a4 a5 5), Value.int .i64 (icR z0_0 n0_0 a1 a2 a3 a4 a5 6)] 39)) = w8 at *
  refine (eqCertificateV (icR z0_0 n0_0 a1 a2 a3 a4 a5 0) (icR z0_0 n0_0 a1 a2 a3 a4 a5 1) (icR z0_0 n0_0 a1 a2 a3 a4 a5 2) (icR z0_0 n0_0 a1 a2 a3 a4 a5 3) (icR z0_0 n0_0 a1 a2 a3 a4 a5 4) (icR z0_0 n0_0 a1 a2 a3 a4 a5 5) (icR z0_0 n0_0 a1 a2 a3 a4 a5 6) _).mono ?_
  rintro e w9 ⟨rfl, m9⟩
  have M9 := M8.trans m9
  have z9 := m9.size
  replace k0_0 := m9.cellAt k0_0
  replace k0_1 := m9.cellAt k0_1
  replace xw0_0 := m9.cellAt xw0_0
  replace xw0_1 := m9.cellAt xw0_1
  replace xw0_2 := m9.cellAt xw0_2
  replace xw0_3 := m9.cellAt xw0_3
  replace xw0_4 := m9.cellAt xw0_4
  replace xw0_5 := m9.cellAt xw0_5
  replace xw0_6 := m9.cellAt xw0_6
  replace xx0_0 := m9.cellAt xx0_0
  replace xx0_1 := m9.cellAt xx0_1
  replace xg0_0 := m9.cellAt xg0_0
  replace xg0_1 := m9.cellAt xg0_1
  replace xg0_2 := m9.cellAt xg0_2
  replace xg0_3 := m9.cellAt xg0_3
  replace xg0_4 := m9.cellAt xg0_4
  replace xg0_5 := m9.cellAt xg0_5
  replace xg0_6 := m9.cellAt xg0_6
  replace h18 := h18.mk m9 (by omega) (.inr (Nat.le_refl _))
  replace h19 := h19.mk m9 (by omega) (.inr (Nat.le_refl _))
  go_wp2_with fail
  have e23 : ∀ w', Mk0 w9 w' → HasAS w' w5.heap.size (some ⟨b11, 0, none⟩) n0_0 z0_0 := fun w' m => h18.mk m (by omega) (.inr (Nat.le_refl _))
  have e24 : ∀ w', Mk0 w9 w' → HasLink w' w5.heap.size (some ⟨b12, 0, none⟩) n0_1 z0_1 := fun w' m => h19.mk m (by omega) (.inr (Nat.le_refl _))
  have e25 : ∀ w', Mk0 w9 w' → w5.heap.size ≤ w'.heap.size := fun w' m => Nat.le_trans (by omega) m.size
  have e26 : ∀ w', Mk0 w9 w' → HasAS w' w.heap.size a0_0 n0_0 z0_0 := fun w' m => h0_0.mk (M9.trans m) (Nat.le_refl _) (.inr (Nat.le_refl _))
  have e27 : ∀ w', Mk0 w9 w' → HasLink w' w.heap.size a0_1 n0_1 z0_1 := fun w' m => h0_1.mk (M9.trans m) (Nat.le_refl _) (.inr (Nat.le_refl _))
  have hN0_0 : n0_0 ≤ 1048576 := by omega
  have hN0_1 : n0_1 ≤ 1048576 := by omega
  go_region_held3 (fun w' => Mk0 w9 w' ∧ w'.cell? ⟨w.heap.size, 0, none⟩ = some (.slice a0_0 n0_0 c0_0) ∧ w'.cell? ⟨w.heap.size, 1, none⟩ = some (.slice a0_1 n0_1 c0_1) ∧ w'.cell? ⟨w3.heap.size, 0, none⟩ = some (.int .i64 (icR z0_0 n0_0 a1 a2 a3 a4 a5 0)) ∧ w'.cell? ⟨w3.heap.size, 1, none⟩ = some (.int .i64 (icR z0_0 n0_0 a1 a2 a3 a4 a5 1)) ∧ w'.cell? ⟨w3.heap.size, 2, none⟩ = some (.int .i64 (icR z0_0 n0_0 a1 a2 a3 a4 a5 2)) ∧ w'.cell? ⟨w3.heap.size, 3, none⟩ = some (.int .i64 (icR z0_0 n0_0 a1 a2 a3 a4 a5 3)) ∧ w'.cell? ⟨w3.heap.size, 4, none⟩ = some (.int .i64 (icR z0_0 n0_0 a1 a2 a3 a4 a5 4)) ∧ w'.cell? ⟨w3.heap.size, 5, none⟩ = some (.int .i64 (icR z0_0 n0_0 a1 a2 a3 a4 a5 5)) ∧ w'.cell? ⟨w3.heap.size, 6, none⟩ = some (.int .i64 (icR z0_0 n0_0 a1 a2 a3 a4 a5 6)) ∧ w'.cell? ⟨w5.heap.size, 0, none⟩ = some (.slice (some ⟨b11, 0, none⟩) n0_0 n0_0) ∧ w'.cell? ⟨w5.heap.size, 1, none⟩ = some (.slice (some ⟨b12, 0, none⟩) n0_1 n0_1) ∧ w'.cell? ⟨w7.heap.size, 0, none⟩ = some (.int .i64 (icR z0_0 n0_0 a1 a2 a3 a4 a5 0)) ∧ w'.cell? ⟨w7.heap.size, 1, none⟩ = some (.int .i64 (icR z0_0 n0_0 a1 a2 a3 a4 a5 1)) ∧ w'.cell? ⟨w7.heap.size, 2, none⟩ = some (.int .i64 (icR z0_0 n0_0 a1 a2 a3 a4 a5 2)) ∧ w'.cell? ⟨w7.heap.size, 3, none⟩ = some (.int .i64 (icR z0_0 n0_0 a1 a2 a3 a4 a5 3)) ∧ w'.cell? ⟨w7.heap.size, 4, none⟩ = some (.int .i64 (icR z0_0 n0_0 a1 a2 a3 a4 a5 4)) ∧ w'.cell? ⟨w7.heap.size, 5, none⟩ = some (.int .i64 (icR z0_0 n0_0 a1 a2 a3 a4 a5 5)) ∧ w'.cell? ⟨w7.heap.size, 6, none⟩ = some (.int .i64 (icR z0_0 n0_0 a1 a2 a3 a4 a5 6))) (first | exact ⟨Mk.drew1 _, k0_0, k0_1, xw0_0, xw0_1, xw0_2, xw0_3, xw0_4, xw0_5, xw0_6, xx0_0, xx0_1, xg0_0, xg0_1, xg0_2, xg0_3, xg0_4, xg0_5, xg0_6⟩ | (obtain ⟨s0, s1, s2, s3, s4, s5, s6, s7, s8, s9, s10, s11, s12, s13, s14, s15, s16, s17, s18⟩ := ‹Mk0 w9 _ ∧ _›; exact ⟨s0.trans mm, mm.cellAt s1, mm.cellAt s2, mm.cellAt s3, mm.cellAt s4, mm.cellAt s5, mm.cellAt s6, mm.cellAt s7, mm.cellAt s8, mm.cellAt s9, mm.cellAt s10, mm.cellAt s11, mm.cellAt s12, mm.cellAt s13, mm.cellAt s14, mm.cellAt s15, mm.cellAt s16, mm.cellAt s17, mm.cellAt s18⟩)) (first | (go_at_call 13; refine (toTopologyC _ _ _ _ _ _ _ _ w.heap.size _ (e26 _ (‹Mk0 w9 _ ∧ _›).1) (e27 _ (‹Mk0 w9 _ ∧ _›).1) (M9.trans (‹Mk0 w9 _ ∧ _›).1).size hN0_0 hN0_1).mono ?_; rintro e wa ⟨bb0, bb1, dd0, rfl, oo0, oo1, gg0, gg1, mm⟩) | (go_at_call 16; refine (eqTopologyC _ _ _ _ _ _ _ _ _ _ _ _ _ _ _ (e23 _ (‹Mk0 w9 _ ∧ _›).1) (e24 _ (‹Mk0 w9 _ ∧ _›).1) (oo0.has.mono gg1) (oo1.has.mono (Nat.le_refl _)) (e25 _ (‹Mk0 w9 _ ∧ _›).1) (Nat.le_refl _) hN0_0 hN0_1).mono ?_; rintro e wb10 ⟨rfl, mm⟩))
  obtain ⟨m10, k0_0, k0_1, xw0_0, xw0_1, xw0_2, xw0_3, xw0_4, xw0_5, xw0_6, xx0_0, xx0_1, xg0_0, xg0_1, xg0_2, xg0_3, xg0_4, xg0_5, xg0_6⟩ := ‹Mk0 w9 _ ∧ _›
  clear e23 e24 e25 e26 e27 hN0_0 hN0_1
  refine ‹∀ (a : Act) (w : World), _ → _› _ _ ?_
  have M10 := M9.trans m10
  have z10 := m10.size
  replace h18 := h18.mk m10 (by omega) (.inr (Nat.le_refl _))
  replace h19 := h19.mk m10 (by omega) (.inr (Nat.le_refl _))
  go_wp2_with fail
  go_ret
  exact ⟨rfl, M10.below0⟩

set_option maxRecDepth 100000 in
theorem lifted (os : Os) (started : os.Started) (H : Type) (enc : TypeId × Value → H) :
    ReturnsInHanded {} Try.checked os 4 .any (Rows.fnExactIssueCertificateSpec.pre6 enc Try.prog Try.f4 Rows.fnExactIssueCertificateRow.domain false) (Rows.fnExactIssueCertificateSpec.post enc Try.prog Try.f4 false true false false) := by
  refine returnsInHanded_of_change (C := Try.checked) own started (by kernel_rfl) Try.func4
    (ChangeSpec.witness6 (enc := enc) (C := Try.checked) false ⟨#[], #[.agg #[.slice none 0 0, .slice none 0 0], .int .i64 0, .int .i64 0, .int .i64 0, .int .i64 0, .int .i64 0], []⟩ 8 (by kernel_rfl) (by kernel_rfl) (by kernel_rfl) (by kernel_rfl)) ?_
  intro W base args ds gs before hval0 hW hcnd _
  have hval : ∀ (j : Nat) t v, Try.f4.params[j]? = some t → args[j]? = some v → Value.okWide Try.prog W .any base t v := hval0
  have hW' := hW
  obtain ⟨p, q, hA0, hV, rfl, hfz, hnd⟩ := hW
  have hA : DataW.TrodAll enc Try.prog W 0 (fun _ => true) true Try.f4.params.toList args.toList ds p := hA0
  rw [Try.params4] at hA hval
  obtain ⟨v0, vs0, d0, ds0, p0, q0, hargs, rfl, rfl, h0, r0⟩ := trodAll_cons hA
  obtain ⟨v1, vs1, d1, ds1, p1, q1, rfl, rfl, rfl, h1, r1⟩ := trodAll_cons r0
  obtain ⟨v2, vs2, d2, ds2, p2, q2, rfl, rfl, rfl, h2, r2⟩ := trodAll_cons r1
  obtain ⟨v3, vs3, d3, ds3, p3, q3, rfl, rfl, rfl, h3, r3⟩ := trodAll_cons r2
  obtain ⟨v4, vs4, d4, ds4, p4, q4, rfl, rfl, rfl, h4, r4⟩ := trodAll_cons r3
  obtain ⟨v5, vs5, d5, ds5, p5, q5, rfl, rfl, rfl, h5, r5⟩ := trodAll_cons r4
  obtain ⟨rfl, rfl, rfl⟩ := trodAll_nil r5
  obtain rfl : args = #[v0, v1, v2, v3, v4, v5] := by cases args; simp_all
  obtain ⟨rfl, rfl⟩ := trodVars_none hV
  have k0 := h0
  have lt0 : ∀ x ∈ p0, x.block < W.heap.size := by obtain ⟨m, hm⟩ := k0; exact DataW.trod_lt m _ _ _ hm
  obtain ⟨cs0, rfl, hcs0, hf0⟩ := open_agg Try.underlying34 (by kernel_rfl) (by kernel_rfl) (hval 0 34 v0 rfl rfl) h0
  obtain ⟨_, _, _, e0_0, q0_0⟩ := hf0 0 _ rfl
  obtain ⟨a0_0, n0_0, c0_0, z0_0, rfl, m0_0, h0_0, f0_0⟩ := openASS q0_0
  obtain ⟨_, _, _, e0_1, q0_1⟩ := hf0 1 _ rfl
  obtain ⟨a0_1, n0_1, c0_1, z0_1, rfl, m0_1, h0_1, f0_1⟩ := openLinkS q0_1
  obtain rfl : cs0 = #[.slice a0_0 n0_0 c0_0, .slice a0_1 n0_1 c0_1] := arr_of [.slice a0_0 n0_0 c0_0, .slice a0_1 n0_1 c0_1] hcs0 (fun j hj => by match j, hj with | 0, _ => exact e0_0 | 1, _ => exact e0_1)
  obtain ⟨a1, rfl, rfl, rfl, w1⟩ := open_int Try.underlying3 (hval 1 3 v1 rfl rfl) h1
  obtain ⟨a2, rfl, rfl, rfl, w2⟩ := open_int Try.underlying3 (hval 2 3 v2 rfl rfl) h2
  obtain ⟨a3, rfl, rfl, rfl, w3⟩ := open_int Try.underlying3 (hval 3 3 v3 rfl rfl) h3
  obtain ⟨a4, rfl, rfl, rfl, w4⟩ := open_int Try.underlying3 (hval 4 3 v4 rfl rfl) h4
  obtain ⟨a5, rfl, rfl, rfl, w5⟩ := open_int Try.underlying3 (hval 5 3 v5 rfl rfl) h5
  clear hA0 hval0
  refine (walk a0_0 n0_0 c0_0 z0_0 a0_1 n0_1 c0_1 z0_1 a1 a2 a3 a4 a5 W h0_0 m0_0 f0_0 h0_1 m0_1 f0_1 w1 w2 w3 w4 w5).mono fun e W' ⟨he, bel⟩ => ?_
  subst he
  exact ⟨_, rfl, _, _, _, [], _, [], hW', trodAll_mk1 (shut_bool Try.underlying4 _), (trodAll_cons_mk (Below.trod laidOut (by kernel_rfl) (of_decide_eq_true (by kernel_rfl)) k0 bel lt0) (trodAll_cons_mk (shut_int Try.underlying3 w1) (trodAll_cons_mk (shut_int Try.underlying3 w2) (trodAll_cons_mk (shut_int Try.underlying3 w3) (trodAll_cons_mk (shut_int Try.underlying3 w4) (trodAll_cons_mk (shut_int Try.underlying3 w5) trodAll_mk0)))))), rfl, bel.frame _, fun h => by cases h⟩

theorem over : Rows.fnExactIssueCertificateRow.holds Try.pinned (OpenSpec.ofChange Rows.fnExactIssueCertificateSpec) :=
  OpenClaim.holds_of_wide 4 Try.f4 rfl rfl rfl rfl rfl rfl rfl ⟨rfl, rfl, rfl, rfl, rfl⟩ rfl rfl rfl rfl rfl (by kernel_rfl) Try.func4 (by kernel_rfl)
    (of_decide_eq_true (by kernel_rfl)) (by unfold Func.isWrapper; first | (rw [if_pos (by decide +kernel)]; kernel_rfl) | (rw [if_neg (by decide +kernel)]; exact ⟨rfl, rfl⟩))
    (fun os started H enc _ => lifted os started H enc)

theorem proved : Rows.FnExactIssueCertificateSaid := over
#print axioms proved
end Go.Proofs.Ytoicmmandniagaa.fnExactIssueCertificate
