
/- For every trust root, the law on FormatRoot returns true, under the condition of what the row lays: the library's table of powers of ten holds what its text lays. -/
import Derived.Test.YtgchhkgcdcknlaaDoorCards
import Derived.Test.YtgchhkgcdcknlaaDoorTie
import Derived.Deep.DeepHandedRow
import Derived.Lib.LaidTab
import Derived.Test.YtgchhkgcdcknlaaDoorRows
import Derived.WalkKit
import Derived.ProofKit
import Derived.OpenShut
import Derived.ShutString
import Derived.ChangeOld
import Derived.Below
import Derived.Test.YtgchhkgcdcknlaaDoorOSignature
import Derived.Test.YtgchhkgcdcknlaaDoorZSignature
import Derived.Test.YtgchhkgcdcknlaaDoorStruct
import Derived.Deep.RegionHeld3
import Derived.Test.YtgchhkgcdcknlaaDoorFroot
import Derived.Test.YtgchhkgcdcknlaaDoorCTrustRoot
namespace Go.Proofs.YtgchhkgcdcknlaaDoor.fnExactFormatRoot
open Go.ChangeShapes Go.WideShapes Go.ChangeAt Go.RowKit
open Go.ChangeMaps (open_string shut_string)
set_option linter.unusedVariables false

theorem own : ownKnob Tryd.prog.godebug = none := by kernel_rfl
theorem laidOut : laidOutB Tryd.prog = true := by kernel_rfl

theorem table {W : World} (hL : laidMetH Tryd.prog Rows.fnExactFormatRootRow.laid W) : Lib.TabIs Tryd.prog W "internal/strconv.uint64pow10" .u64 Lib.pow10Tab :=
  pow10_of (laid_drop2 (show laidMet Tryd.prog Rows.fnExactFormatRootRow.laid W from hL))

set_option maxRecDepth 100000 in
set_option maxHeartbeats 4000000 in
theorem walk (a0_0 : Int) (a0_1 : Int) (a0_2 : Int) (a0_3 : Int) (a0_4 : Int) (a0_5 : Int) (a0_6 : Option Addr) (n0_6 c0_6 : Nat) (z0_6 : List TSignature) (w : World) (w0_0 : (Lit.int .i64 a0_0).wf = true) (w0_1 : (Lit.int .i64 a0_1).wf = true) (w0_2 : (Lit.int .i64 a0_2).wf = true) (w0_3 : (Lit.int .i64 a0_3).wf = true) (w0_4 : (Lit.int .i64 a0_4).wf = true) (w0_5 : (Lit.int .i64 a0_5).wf = true) (h0_6 : HasSignature w w.heap.size a0_6 n0_6 z0_6) (m0_6 : n0_6 ≤ 9223372036854775807) (f0_6 : ∀ x ∈ z0_6, TSignature.fits x) (htab : Lib.TabIs Tryd.prog w "internal/strconv.uint64pow10" .u64 Lib.pow10Tab) :
    Calls Tryd.prog 3 #[.agg #[.int .i64 a0_0, .int .i64 a0_1, .int .i64 a0_2, .int .i64 a0_3, .int .i64 a0_4, .int .i64 a0_5, .slice a0_6 n0_6 c0_6]] w fun e w' => e = .returned (.bool true) ∧ Below w.heap.size w w' := by
  by_cases hbig0 : (1048576 : Int) < (n0_6 : Int)
  · go_enter Tryd.func3, Tryd.ntmps3
    go_wp2_with fail
    have M0 : Mk0 w (w.alloc (Obj.cells #[Value.int .i64 a0_0, Value.int .i64 a0_1, Value.int .i64 a0_2, Value.int .i64 a0_3, Value.int .i64 a0_4, Value.int .i64 a0_5, Value.slice a0_6 n0_6 c0_6] 24)) := (Mk.alloc w _)
    have k0_0 : (w.alloc (Obj.cells #[Value.int .i64 a0_0, Value.int .i64 a0_1, Value.int .i64 a0_2, Value.int .i64 a0_3, Value.int .i64 a0_4, Value.int .i64 a0_5, Value.slice a0_6 n0_6 c0_6] 24)).cell? ⟨w.heap.size, 0, none⟩ = some (.int .i64 a0_0) := by simp [go_sem]
    have k0_1 : (w.alloc (Obj.cells #[Value.int .i64 a0_0, Value.int .i64 a0_1, Value.int .i64 a0_2, Value.int .i64 a0_3, Value.int .i64 a0_4, Value.int .i64 a0_5, Value.slice a0_6 n0_6 c0_6] 24)).cell? ⟨w.heap.size, 1, none⟩ = some (.int .i64 a0_1) := by simp [go_sem]
    have k0_2 : (w.alloc (Obj.cells #[Value.int .i64 a0_0, Value.int .i64 a0_1, Value.int .i64 a0_2, Value.int .i64 a0_3, Value.int .i64 a0_4, Value.int .i64 a0_5, Value.slice a0_6 n0_6 c0_6] 24)).cell? ⟨w.heap.size, 2, none⟩ = some (.int .i64 a0_2) := by simp [go_sem]
    have k0_3 : (w.alloc (Obj.cells #[Value.int .i64 a0_0, Value.int .i64 a0_1, Value.int .i64 a0_2, Value.int .i64 a0_3, Value.int .i64 a0_4, Value.int .i64 a0_5, Value.slice a0_6 n0_6 c0_6] 24)).cell? ⟨w.heap.size, 3, none⟩ = some (.int .i64 a0_3) := by simp [go_sem]
    have k0_4 : (w.alloc (Obj.cells #[Value.int .i64 a0_0, Value.int .i64 a0_1, Value.int .i64 a0_2, Value.int .i64 a0_3, Value.int .i64 a0_4, Value.int .i64 a0_5, Value.slice a0_6 n0_6 c0_6] 24)).cell? ⟨w.heap.size, 4, none⟩ = some (.int .i64 a0_4) := by simp [go_sem]
    have k0_5 : (w.alloc (Obj.cells #[Value.int .i64 a0_0, Value.int .i64 a0_1, Value.int .i64 a0_2, Value.int .i64 a0_3, Value.int .i64 a0_4, Value.int .i64 a0_5, Value.slice a0_6 n0_6 c0_6] 24)).cell? ⟨w.heap.size, 5, none⟩ = some (.int .i64 a0_5) := by simp [go_sem]
    have k0_6 : (w.alloc (Obj.cells #[Value.int .i64 a0_0, Value.int .i64 a0_1, Value.int .i64 a0_2, Value.int .i64 a0_3, Value.int .i64 a0_4, Value.int .i64 a0_5, Value.slice a0_6 n0_6 c0_6] 24)).cell? ⟨w.heap.size, 6, none⟩ = some (.slice a0_6 n0_6 c0_6) := by simp [go_sem]
    refine (szTrustRootB _ _ _ _ _ _ _ _ _ _ _ (by omega) (by omega) (by omega) m0_6).mono ?_
    rintro e w1 ⟨rfl, m1⟩
    go_wp2_with fail
    go_ret
    exact ⟨rfl, (M0.trans m1).below0⟩
  have hn0 : (n0_6 : Int) ≤ (1048576 : Int) := by omega
  clear hbig0
  go_enter Tryd.func3, Tryd.ntmps3
  go_wp2_with fail
  have M0 : Mk0 w (w.alloc (Obj.cells #[Value.int .i64 a0_0, Value.int .i64 a0_1, Value.int .i64 a0_2, Value.int .i64 a0_3, Value.int .i64 a0_4, Value.int .i64 a0_5, Value.slice a0_6 n0_6 c0_6] 24)) := (Mk.alloc w _)
  have k0_0 : (w.alloc (Obj.cells #[Value.int .i64 a0_0, Value.int .i64 a0_1, Value.int .i64 a0_2, Value.int .i64 a0_3, Value.int .i64 a0_4, Value.int .i64 a0_5, Value.slice a0_6 n0_6 c0_6] 24)).cell? ⟨w.heap.size, 0, none⟩ = some (.int .i64 a0_0) := by simp [go_sem]
  have k0_1 : (w.alloc (Obj.cells #[Value.int .i64 a0_0, Value.int .i64 a0_1, Value.int .i64 a0_2, Value.int .i64 a0_3, Value.int .i64 a0_4, Value.int .i64 a0_5, Value.slice a0_6 n0_6 c0_6] 24)).cell? ⟨w.heap.size, 1, none⟩ = some (.int .i64 a0_1) := by simp [go_sem]
  have k0_2 : (w.alloc (Obj.cells #[Value.int .i64 a0_0, Value.int .i64 a0_1, Value.int .i64 a0_2, Value.int .i64 a0_3, Value.int .i64 a0_4, Value.int .i64 a0_5, Value.slice a0_6 n0_6 c0_6] 24)).cell? ⟨w.heap.size, 2, none⟩ = some (.int .i64 a0_2) := by simp [go_sem]
  have k0_3 : (w.alloc (Obj.cells #[Value.int .i64 a0_0, Value.int .i64 a0_1, Value.int .i64 a0_2, Value.int .i64 a0_3, Value.int .i64 a0_4, Value.int .i64 a0_5, Value.slice a0_6 n0_6 c0_6] 24)).cell? ⟨w.heap.size, 3, none⟩ = some (.int .i64 a0_3) := by simp [go_sem]
  have k0_4 : (w.alloc (Obj.cells #[Value.int .i64 a0_0, Value.int .i64 a0_1, Value.int .i64 a0_2, Value.int .i64 a0_3, Value.int .i64 a0_4, Value.int .i64 a0_5, Value.slice a0_6 n0_6 c0_6] 24)).cell? ⟨w.heap.size, 4, none⟩ = some (.int .i64 a0_4) := by simp [go_sem]
  have k0_5 : (w.alloc (Obj.cells #[Value.int .i64 a0_0, Value.int .i64 a0_1, Value.int .i64 a0_2, Value.int .i64 a0_3, Value.int .i64 a0_4, Value.int .i64 a0_5, Value.slice a0_6 n0_6 c0_6] 24)).cell? ⟨w.heap.size, 5, none⟩ = some (.int .i64 a0_5) := by simp [go_sem]
  have k0_6 : (w.alloc (Obj.cells #[Value.int .i64 a0_0, Value.int .i64 a0_1, Value.int .i64 a0_2, Value.int .i64 a0_3, Value.int .i64 a0_4, Value.int .i64 a0_5, Value.slice a0_6 n0_6 c0_6] 24)).cell? ⟨w.heap.size, 6, none⟩ = some (.slice a0_6 n0_6 c0_6) := by simp [go_sem]
  refine (szTrustRootC _ _ _ _ _ _ _ _ _ _ _ (by omega) (by omega) (by omega)).mono ?_
  rintro e w1 ⟨l1, hl1, rfl, m1⟩
  have M1 := M0.trans m1
  replace k0_0 := m1.cellAt k0_0
  replace k0_1 := m1.cellAt k0_1
  replace k0_2 := m1.cellAt k0_2
  replace k0_3 := m1.cellAt k0_3
  replace k0_4 := m1.cellAt k0_4
  replace k0_5 := m1.cellAt k0_5
  replace k0_6 := m1.cellAt k0_6
  have z1 := m1.size
  simp only [World.size_alloc] at z1
  go_wp2_with fail
  refine (toTrustRootC _ _ _ _ _ _ _ _ _ _ w.heap.size _ (h0_6.mk M1 (Nat.le_refl _) (.inr (Nat.le_refl _))) (by omega) (by omega)).mono ?_
  rintro e w2 ⟨b1, rfl, o2, g3, m2⟩
  have M2 := M1.trans m2
  have z2 := m2.size
  replace k0_0 := m2.cellAt k0_0
  replace k0_1 := m2.cellAt k0_1
  replace k0_2 := m2.cellAt k0_2
  replace k0_3 := m2.cellAt k0_3
  replace k0_4 := m2.cellAt k0_4
  replace k0_5 := m2.cellAt k0_5
  replace k0_6 := m2.cellAt k0_6
  have h4 := o2.has.mono (B' := w2.heap.size) (by omega)
  clear o2
  go_wp2_with fail
  refine (specFRoot a0_0 a0_1 a0_2 a0_3 a0_4 a0_5 _ _ _ _ (i64_of w0_0).1 (i64_of w0_0).2 (i64_of w0_1).1 (i64_of w0_1).2 (i64_of w0_5).1 (i64_of w0_5).2).mono ?_
  rintro e w3 ⟨rfl, m3⟩
  have M3 := M2.trans m3
  have z3 := m3.size
  replace k0_0 := m3.cellAt k0_0
  replace k0_1 := m3.cellAt k0_1
  replace k0_2 := m3.cellAt k0_2
  replace k0_3 := m3.cellAt k0_3
  replace k0_4 := m3.cellAt k0_4
  replace k0_5 := m3.cellAt k0_5
  replace k0_6 := m3.cellAt k0_6
  replace h4 := h4.mk m3 (by omega) (.inr (Nat.le_refl _))
  go_wp2_with fail
  refine (toTrustRootC _ _ _ _ _ _ _ _ _ _ w.heap.size _ (h0_6.mk M3 (Nat.le_refl _) (.inr (Nat.le_refl _))) (by omega) (by omega)).mono ?_
  rintro e w4 ⟨b5, rfl, o6, g7, m4⟩
  have M4 := M3.trans m4
  have z4 := m4.size
  replace k0_0 := m4.cellAt k0_0
  replace k0_1 := m4.cellAt k0_1
  replace k0_2 := m4.cellAt k0_2
  replace k0_3 := m4.cellAt k0_3
  replace k0_4 := m4.cellAt k0_4
  replace k0_5 := m4.cellAt k0_5
  replace k0_6 := m4.cellAt k0_6
  have h8 := o6.has.mono (B' := w4.heap.size) (by omega)
  clear o6
  go_wp2_with fail
  have xx0_0 : (w4.alloc (Obj.cells #[Value.int .i64 a0_0, Value.int .i64 a0_1, Value.int .i64 a0_2, Value.int .i64 a0_3, Value.int .i64 a0_4, Value.int .i64 a0_5, Value.slice (some ⟨b5, 0, none⟩) n0_6 n0_6] 29)).cell? ⟨w4.heap.size, 0, none⟩ = some (.int .i64 a0_0) := by rw [World.cell?_alloc_at _ _ _ _ rfl]; rfl
  have xx0_1 : (w4.alloc (Obj.cells #[Value.int .i64 a0_0, Value.int .i64 a0_1, Value.int .i64 a0_2, Value.int .i64 a0_3, Value.int .i64 a0_4, Value.int .i64 a0_5, Value.slice (some ⟨b5, 0, none⟩) n0_6 n0_6] 29)).cell? ⟨w4.heap.size, 1, none⟩ = some (.int .i64 a0_1) := by rw [World.cell?_alloc_at _ _ _ _ rfl]; rfl
  have xx0_2 : (w4.alloc (Obj.cells #[Value.int .i64 a0_0, Value.int .i64 a0_1, Value.int .i64 a0_2, Value.int .i64 a0_3, Value.int .i64 a0_4, Value.int .i64 a0_5, Value.slice (some ⟨b5, 0, none⟩) n0_6 n0_6] 29)).cell? ⟨w4.heap.size, 2, none⟩ = some (.int .i64 a0_2) := by rw [World.cell?_alloc_at _ _ _ _ rfl]; rfl
  have xx0_3 : (w4.alloc (Obj.cells #[Value.int .i64 a0_0, Value.int .i64 a0_1, Value.int .i64 a0_2, Value.int .i64 a0_3, Value.int .i64 a0_4, Value.int .i64 a0_5, Value.slice (some ⟨b5, 0, none⟩) n0_6 n0_6] 29)).cell? ⟨w4.heap.size, 3, none⟩ = some (.int .i64 a0_3) := by rw [World.cell?_alloc_at _ _ _ _ rfl]; rfl
  have xx0_4 : (w4.alloc (Obj.cells #[Value.int .i64 a0_0, Value.int .i64 a0_1, Value.int .i64 a0_2, Value.int .i64 a0_3, Value.int .i64 a0_4, Value.int .i64 a0_5, Value.slice (some ⟨b5, 0, none⟩) n0_6 n0_6] 29)).cell? ⟨w4.heap.size, 4, none⟩ = some (.int .i64 a0_4) := by rw [World.cell?_alloc_at _ _ _ _ rfl]; rfl
  have xx0_5 : (w4.alloc (Obj.cells #[Value.int .i64 a0_0, Value.int .i64 a0_1, Value.int .i64 a0_2, Value.int .i64 a0_3, Value.int .i64 a0_4, Value.int .i64 a0_5, Value.slice (some ⟨b5, 0, none⟩) n0_6 n0_6] 29)).cell? ⟨w4.heap.size, 5, none⟩ = some (.int .i64 a0_5) := by rw [World.cell?_alloc_at _ _ _ _ rfl]; rfl
  have xx0_6 : (w4.alloc (Obj.cells #[Value.int .i64 a0_0, Value.int .i64 a0_1, Value.int .i64 a0_2, Value.int .i64 a0_3, Value.int .i64 a0_4, Value.int .i64 a0_5, Value.slice (some ⟨b5, 0, none⟩) n0_6 n0_6] 29)).cell? ⟨w4.heap.size, 6, none⟩ = some (.slice (some ⟨b5, 0, none⟩) n0_6 n0_6) := by rw [World.cell?_alloc_at _ _ _ _ rfl]; rfl
  refine (implFRoot a0_0 a0_1 a0_2 a0_3 a0_4 a0_5 _ _ _ _ (i64_of w0_0).1 (i64_of w0_0).2 (i64_of w0_1).1 (i64_of w0_1).2 (i64_of w0_5).1 (i64_of w0_5).2 (tab_mk htab (M4.trans (Mk.alloc _ _)))).mono ?_
  rintro e w5 ⟨rfl, m5⟩
  replace xx0_0 := m5.cellAt xx0_0
  replace xx0_1 := m5.cellAt xx0_1
  replace xx0_2 := m5.cellAt xx0_2
  replace xx0_3 := m5.cellAt xx0_3
  replace xx0_4 := m5.cellAt xx0_4
  replace xx0_5 := m5.cellAt xx0_5
  replace xx0_6 := m5.cellAt xx0_6
  replace m5 := (Mk.alloc w4 _).trans m5
  have M5 := M4.trans m5
  have z5 := m5.size
  replace k0_0 := m5.cellAt k0_0
  replace k0_1 := m5.cellAt k0_1
  replace k0_2 := m5.cellAt k0_2
  replace k0_3 := m5.cellAt k0_3
  replace k0_4 := m5.cellAt k0_4
  replace k0_5 := m5.cellAt k0_5
  replace k0_6 := m5.cellAt k0_6
  replace h8 := h8.mk m5 (by omega) (.inr (Nat.le_refl _))
  go_wp2_with fail
  have e9 : ∀ w', Mk0 w5 w' → HasSignature w' w4.heap.size (some ⟨b5, 0, none⟩) n0_6 z0_6 := fun w' m => h8.mk m (by omega) (.inr (Nat.le_refl _))
  have e10 : ∀ w', Mk0 w5 w' → w4.heap.size ≤ w'.heap.size := fun w' m => Nat.le_trans (by omega) m.size
  have e11 : ∀ w', Mk0 w5 w' → HasSignature w' w.heap.size a0_6 n0_6 z0_6 := fun w' m => h0_6.mk (M5.trans m) (Nat.le_refl _) (.inr (Nat.le_refl _))
  have hN0_6 : n0_6 ≤ 1048576 := by omega
  go_region_held3 (fun w' => Mk0 w5 w' ∧ w'.cell? ⟨w.heap.size, 0, none⟩ = some (.int .i64 a0_0) ∧ w'.cell? ⟨w.heap.size, 1, none⟩ = some (.int .i64 a0_1) ∧ w'.cell? ⟨w.heap.size, 2, none⟩ = some (.int .i64 a0_2) ∧ w'.cell? ⟨w.heap.size, 3, none⟩ = some (.int .i64 a0_3) ∧ w'.cell? ⟨w.heap.size, 4, none⟩ = some (.int .i64 a0_4) ∧ w'.cell? ⟨w.heap.size, 5, none⟩ = some (.int .i64 a0_5) ∧ w'.cell? ⟨w.heap.size, 6, none⟩ = some (.slice a0_6 n0_6 c0_6) ∧ w'.cell? ⟨w4.heap.size, 0, none⟩ = some (.int .i64 a0_0) ∧ w'.cell? ⟨w4.heap.size, 1, none⟩ = some (.int .i64 a0_1) ∧ w'.cell? ⟨w4.heap.size, 2, none⟩ = some (.int .i64 a0_2) ∧ w'.cell? ⟨w4.heap.size, 3, none⟩ = some (.int .i64 a0_3) ∧ w'.cell? ⟨w4.heap.size, 4, none⟩ = some (.int .i64 a0_4) ∧ w'.cell? ⟨w4.heap.size, 5, none⟩ = some (.int .i64 a0_5) ∧ w'.cell? ⟨w4.heap.size, 6, none⟩ = some (.slice (some ⟨b5, 0, none⟩) n0_6 n0_6)) (first | exact ⟨Mk.drew1 _, k0_0, k0_1, k0_2, k0_3, k0_4, k0_5, k0_6, xx0_0, xx0_1, xx0_2, xx0_3, xx0_4, xx0_5, xx0_6⟩ | (obtain ⟨s0, s1, s2, s3, s4, s5, s6, s7, s8, s9, s10, s11, s12, s13, s14⟩ := ‹Mk0 w5 _ ∧ _›; exact ⟨s0.trans mm, mm.cellAt s1, mm.cellAt s2, mm.cellAt s3, mm.cellAt s4, mm.cellAt s5, mm.cellAt s6, mm.cellAt s7, mm.cellAt s8, mm.cellAt s9, mm.cellAt s10, mm.cellAt s11, mm.cellAt s12, mm.cellAt s13, mm.cellAt s14⟩)) (first | (go_at_call 8; refine (toTrustRootC _ _ _ _ _ _ _ _ _ _ w.heap.size _ (e11 _ (‹Mk0 w5 _ ∧ _›).1) (M5.trans (‹Mk0 w5 _ ∧ _›).1).size hN0_6).mono ?_; rintro e wa ⟨bb0, rfl, oo0, gg0, mm⟩) | (go_at_call 10; refine (eqTrustRootC _ _ _ _ _ _ _ _ _ _ _ _ _ _ _ (e9 _ (‹Mk0 w5 _ ∧ _›).1) (oo0.has.mono (Nat.le_refl _)) (e10 _ (‹Mk0 w5 _ ∧ _›).1) (Nat.le_refl _) hN0_6).mono ?_; rintro e wb6 ⟨rfl, mm⟩))
  obtain ⟨m6, k0_0, k0_1, k0_2, k0_3, k0_4, k0_5, k0_6, xx0_0, xx0_1, xx0_2, xx0_3, xx0_4, xx0_5, xx0_6⟩ := ‹Mk0 w5 _ ∧ _›
  clear e9 e10 e11 hN0_6
  refine ‹∀ (a : Act) (w : World), _ → _› _ _ ?_
  have M6 := M5.trans m6
  have z6 := m6.size
  replace h8 := h8.mk m6 (by omega) (.inr (Nat.le_refl _))
  go_wp2_with fail
  go_ret
  exact ⟨rfl, M6.below0⟩

set_option maxRecDepth 100000 in
theorem contract (H : Type) (enc : TypeId × Value → H) (W : World) (base : Nat) (args : Array Value) (ds gs : List (DataW H)) (before : List MemPlace)
    (hval0 : ∀ (j : Nat) t v, Tryd.f3.params[j]? = some t → args[j]? = some v → Value.okWide Tryd.prog W .any base t v)
    (hW : DataW.Whole enc Tryd.prog Tryd.f3.params.toList Rows.fnExactFormatRootSpec.vars false W args.toList ds gs before) (hL : laidMetH Tryd.prog Rows.fnExactFormatRootRow.laid W) :
    Calls Tryd.prog 3 args W fun e W' => ∃ v, e = .returned v ∧ Rows.fnExactFormatRootSpec.post enc Tryd.prog Tryd.f3 false true false false W args v W' := by
  have hval : ∀ (j : Nat) t v, Tryd.f3.params[j]? = some t → args[j]? = some v → Value.okWide Tryd.prog W .any base t v := hval0
  have hW' := hW
  obtain ⟨p, q, hA0, hV, rfl, hfz, hnd⟩ := hW
  have hA : DataW.TrodAll enc Tryd.prog W 0 (fun _ => true) true Tryd.f3.params.toList args.toList ds p := hA0
  rw [Tryd.params3] at hA hval
  obtain ⟨v0, vs0, d0, ds0, p0, q0, hargs, rfl, rfl, h0, r0⟩ := trodAll_cons hA
  obtain ⟨rfl, rfl, rfl⟩ := trodAll_nil r0
  obtain rfl : args = #[v0] := by cases args; simp_all
  obtain ⟨rfl, rfl⟩ := trodVars_none hV
  have k0 := h0
  have lt0 : ∀ x ∈ p0, x.block < W.heap.size := by obtain ⟨m, hm⟩ := k0; exact DataW.trod_lt m _ _ _ hm
  obtain ⟨cs0, rfl, hcs0, hf0⟩ := open_agg Tryd.underlying24 (by kernel_rfl) (by kernel_rfl) (hval 0 24 v0 rfl rfl) h0
  obtain ⟨_, _, _, e0_0, q0_0⟩ := hf0 0 _ rfl
  obtain ⟨a0_0, rfl, w0_0⟩ := one_int Tryd.underlying3 q0_0
  obtain ⟨_, _, _, e0_1, q0_1⟩ := hf0 1 _ rfl
  obtain ⟨a0_1, rfl, w0_1⟩ := one_int Tryd.underlying3 q0_1
  obtain ⟨_, _, _, e0_2, q0_2⟩ := hf0 2 _ rfl
  obtain ⟨a0_2, rfl, w0_2⟩ := one_int Tryd.underlying3 q0_2
  obtain ⟨_, _, _, e0_3, q0_3⟩ := hf0 3 _ rfl
  obtain ⟨a0_3, rfl, w0_3⟩ := one_int Tryd.underlying3 q0_3
  obtain ⟨_, _, _, e0_4, q0_4⟩ := hf0 4 _ rfl
  obtain ⟨a0_4, rfl, w0_4⟩ := one_int Tryd.underlying3 q0_4
  obtain ⟨_, _, _, e0_5, q0_5⟩ := hf0 5 _ rfl
  obtain ⟨a0_5, rfl, w0_5⟩ := one_int Tryd.underlying3 q0_5
  obtain ⟨_, _, _, e0_6, q0_6⟩ := hf0 6 _ rfl
  obtain ⟨a0_6, n0_6, c0_6, z0_6, rfl, m0_6, h0_6, f0_6⟩ := openSignatureS q0_6
  obtain rfl : cs0 = #[.int .i64 a0_0, .int .i64 a0_1, .int .i64 a0_2, .int .i64 a0_3, .int .i64 a0_4, .int .i64 a0_5, .slice a0_6 n0_6 c0_6] := arr_of [.int .i64 a0_0, .int .i64 a0_1, .int .i64 a0_2, .int .i64 a0_3, .int .i64 a0_4, .int .i64 a0_5, .slice a0_6 n0_6 c0_6] hcs0 (fun j hj => by match j, hj with | 0, _ => exact e0_0 | 1, _ => exact e0_1 | 2, _ => exact e0_2 | 3, _ => exact e0_3 | 4, _ => exact e0_4 | 5, _ => exact e0_5 | 6, _ => exact e0_6)
  clear hA0 hval0
  refine (walk a0_0 a0_1 a0_2 a0_3 a0_4 a0_5 a0_6 n0_6 c0_6 z0_6 W w0_0 w0_1 w0_2 w0_3 w0_4 w0_5 h0_6 m0_6 f0_6 (table hL)).mono fun e W' ⟨he, bel⟩ => ?_
  subst he
  exact ⟨_, rfl, _, _, _, [], _, [], hW', trodAll_mk1 (shut_bool Tryd.underlying4 _), (trodAll_cons_mk (Below.trod laidOut (by kernel_rfl) (of_decide_eq_true (by kernel_rfl)) k0 bel lt0) trodAll_mk0), rfl, bel.frame _, fun h => by cases h⟩

noncomputable def laidWorld (os : Os) : World :=
  { World.holding Tryd.prog os ⟨#[], #[], []⟩ with heap := ((((World.holding Tryd.prog os ⟨#[], #[], []⟩).heap.modify 1 fun | .cells _ t frozen => .cells #[.int .u8 0, .int .u8 1, .int .u8 28, .int .u8 2, .int .u8 29, .int .u8 14, .int .u8 24, .int .u8 3, .int .u8 30, .int .u8 22, .int .u8 20, .int .u8 15, .int .u8 25, .int .u8 17, .int .u8 4, .int .u8 8, .int .u8 31, .int .u8 27, .int .u8 13, .int .u8 23, .int .u8 21, .int .u8 19, .int .u8 16, .int .u8 7, .int .u8 26, .int .u8 12, .int .u8 18, .int .u8 6, .int .u8 11, .int .u8 5, .int .u8 10, .int .u8 9] t frozen | o => o).modify 2 fun | .cells _ t frozen => .cells #[.int .u8 0, .int .u8 1, .int .u8 56, .int .u8 2, .int .u8 57, .int .u8 49, .int .u8 28, .int .u8 3, .int .u8 61, .int .u8 58, .int .u8 42, .int .u8 50, .int .u8 38, .int .u8 29, .int .u8 17, .int .u8 4, .int .u8 62, .int .u8 47, .int .u8 59, .int .u8 36, .int .u8 45, .int .u8 43, .int .u8 51, .int .u8 22, .int .u8 53, .int .u8 39, .int .u8 33, .int .u8 30, .int .u8 24, .int .u8 18, .int .u8 12, .int .u8 5, .int .u8 63, .int .u8 55, .int .u8 48, .int .u8 27, .int .u8 60, .int .u8 41, .int .u8 37, .int .u8 16, .int .u8 46, .int .u8 35, .int .u8 44, .int .u8 21, .int .u8 52, .int .u8 32, .int .u8 23, .int .u8 11, .int .u8 54, .int .u8 26, .int .u8 40, .int .u8 15, .int .u8 34, .int .u8 20, .int .u8 31, .int .u8 10, .int .u8 25, .int .u8 14, .int .u8 19, .int .u8 9, .int .u8 13, .int .u8 8, .int .u8 7, .int .u8 6] t frozen | o => o).modify 0 fun | .cells _ t frozen => .cells #[.int .u64 1, .int .u64 10, .int .u64 100, .int .u64 1000, .int .u64 10000, .int .u64 100000, .int .u64 1000000, .int .u64 10000000, .int .u64 100000000, .int .u64 1000000000, .int .u64 10000000000, .int .u64 100000000000, .int .u64 1000000000000, .int .u64 10000000000000, .int .u64 100000000000000, .int .u64 1000000000000000, .int .u64 10000000000000000, .int .u64 100000000000000000, .int .u64 1000000000000000000, .int .u64 10000000000000000000] t frozen | o => o) }
theorem laid_met (os : Os) : laidMet Tryd.prog Rows.fnExactFormatRootRow.laid ((laidWorld os).forCall (fun _ _ => 0) ⟨#[], #[.agg #[.int .i64 0, .int .i64 0, .int .i64 0, .int .i64 0, .int .i64 0, .int .i64 0, .slice none 0 0]], []⟩).memory :=
  laidMet_of_run' 8 (by kernel_rfl) (by kernel_rfl)
theorem reads (os : Os) {H : Type} (enc : TypeId × Value → H) : ∃ places, DataW.whole enc Tryd.prog ((laidWorld os).forCall (fun _ _ => 0) ⟨#[], #[.agg #[.int .i64 0, .int .i64 0, .int .i64 0, .int .i64 0, .int .i64 0, .int .i64 0, .slice none 0 0]], []⟩).memory Tryd.f3.params.toList Rows.fnExactFormatRootSpec.vars false #[.agg #[.int .i64 0, .int .i64 0, .int .i64 0, .int .i64 0, .int .i64 0, .int .i64 0, .slice none 0 0]].toList 8 = some ([.agg [.lit (.int .i64 0), .lit (.int .i64 0), .lit (.int .i64 0), .lit (.int .i64 0), .lit (.int .i64 0), .lit (.int .i64 0), .nil]], [], places) :=
  ⟨[], by kernel_rfl⟩
set_option maxRecDepth 100000 in
theorem lifted (os : Os) (started : os.Started) (H : Type) (enc : TypeId × Value → H) (F : Stop.Interp) :
    ReturnsInHanded {} Tryd.checked os 3 .any ((OpenSpec.ofChange Rows.fnExactFormatRootSpec).preRow enc Tryd.prog Tryd.f3 Rows.fnExactFormatRootRow.domain false Rows.fnExactFormatRootRow.laid) (((OpenSpec.ofChange Rows.fnExactFormatRootSpec).at F).post enc Tryd.prog Tryd.f3 false true false false) := by
  obtain ⟨places, hx⟩ := reads os enc
  refine returnsInHanded_of_row (C := Tryd.checked) (s := (OpenSpec.ofChange Rows.fnExactFormatRootSpec)) own started (by kernel_rfl) Tryd.func3
    (witness_row_at (enc := enc) (C := Tryd.checked) false (laidWorld os) #[.agg #[.int .i64 0, .int .i64 0, .int .i64 0, .int .i64 0, .int .i64 0, .int .i64 0, .slice none 0 0]] rfl (by kernel_rfl) (by kernel_rfl) (by kernel_rfl)
      (OpenSpec.preRow_of_cond 8 hx (by kernel_rfl) (fun k hk => by cases hk) (by kernel_rfl) (laid_met os))) ?_
  intro W base args ds gs before hval hW _ _ _ hL _ _
  exact contract H enc W base args ds gs before hval hW hL

theorem said : Rows.FnExactFormatRootSaid :=
  OpenClaim.holds_of_cond 3 Tryd.f3 rfl rfl rfl rfl rfl rfl rfl ⟨rfl, rfl, rfl, rfl, rfl⟩ rfl rfl rfl rfl rfl (by kernel_rfl) Tryd.func3 (by kernel_rfl)
    (of_decide_eq_true (by kernel_rfl)) (by unfold Func.isWrapper; first | (rw [if_pos (by decide +kernel)]; kernel_rfl) | (rw [if_neg (by decide +kernel)]; exact ⟨rfl, rfl⟩))
    (fun os started H enc _ F => by rw [OpenClaim.pre_eq_preRow]; exact lifted os started H enc F)
theorem plain (f : FuncId) (fn : Func) (hf : Tryd.pinned.checked.prog.funcNamed "loop.example/g00505/laws.FnExactFormatRoot" = some f) (hfn : Tryd.pinned.checked.prog.funcs[f]? = some fn) :
    false = Tryd.pinned.checked.prog.looks [] ∧ ∀ (j : Nat) t, fn.params[j]? = some t → Tryd.pinned.checked.prog.wantsStandIn t = false := by
  obtain rfl : f = 3 := Option.some.inj ((show Tryd.prog.funcNamed "loop.example/g00505/laws.FnExactFormatRoot" = some 3 by kernel_rfl).symm.trans hf) |>.symm
  obtain rfl : fn = Tryd.f3 := (Option.some.inj (Tryd.func3.symm.trans hfn)).symm
  refine ⟨by kernel_rfl, fun j t ht => ?_⟩
  rw [Tryd.params3] at ht
  have ht' := Array.mem_of_getElem? ht
  simp only [List.mem_toArray, List.mem_cons, List.not_mem_nil, or_false] at ht'
  rcases ht' with rfl
  exact (show Tryd.prog.wantsStandIn 24 = false by kernel_rfl)
theorem proved : Rows.FnExactFormatRootCardSaid :=
  Claim7.holds_tied_plain_at .later [] _ _ _ _ said (fun _ h => by cases h) (by kernel_rfl) (fun _ h => by cases h) fnExactFormatRoot_row_tie rfl ⟨rfl, rfl⟩ (by kernel_rfl) rfl plain (by kernel_rfl)
#print axioms proved
end Go.Proofs.YtgchhkgcdcknlaaDoor.fnExactFormatRoot
