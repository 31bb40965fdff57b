
/- For every topology and every certificate, the law on FormatCertificate returns true, under the condition of what the row lays: the library's table of powers of ten holds what its text lays. -/
import Derived.Test.YtgchhkgcdcknlaaDoorCards
import Derived.Test.YtgchhkgcdcknlaaDoorTie
import Derived.Deep.DeepHandedRow
import Derived.Lib.LaidTab
import Derived.Test.YtgchhkgcdcknlaaDoorRows
import Derived.WalkKit
import Derived.ProofKit
import Derived.OpenShut
import Derived.ShutString
import Derived.ChangeOld
import Derived.Below
import Derived.Test.YtgchhkgcdcknlaaDoorOAS
import Derived.Test.YtgchhkgcdcknlaaDoorZAS
import Derived.Test.YtgchhkgcdcknlaaDoorOLink
import Derived.Test.YtgchhkgcdcknlaaDoorZLink
import Derived.Test.YtgchhkgcdcknlaaDoorOpenN
import Derived.Test.YtgchhkgcdcknlaaDoorStruct
import Derived.Deep.RegionHeld3
import Derived.Test.YtgchhkgcdcknlaaDoorFcert
import Derived.Test.YtgchhkgcdcknlaaDoorCCertificate
namespace Go.Proofs.YtgchhkgcdcknlaaDoor.fnExactFormatCertificate
open Go.ChangeShapes Go.WideShapes Go.ChangeAt Go.RowKit
open Go.ChangeMaps (open_string shut_string)
set_option linter.unusedVariables false

theorem own : ownKnob Tryd.prog.godebug = none := by kernel_rfl
theorem laidOut : laidOutB Tryd.prog = true := by kernel_rfl

theorem table {W : World} (hL : laidMetH Tryd.prog Rows.fnExactFormatCertificateRow.laid W) : Lib.TabIs Tryd.prog W "internal/strconv.uint64pow10" .u64 Lib.pow10Tab :=
  pow10_of (laid_drop2 (show laidMet Tryd.prog Rows.fnExactFormatCertificateRow.laid W from hL))

set_option maxRecDepth 100000 in
set_option maxHeartbeats 4000000 in
theorem walk (a0_0 : Option Addr) (n0_0 c0_0 : Nat) (z0_0 : List TAS) (a0_1 : Option Addr) (n0_1 c0_1 : Nat) (z0_1 : List TLink) (a1_0 : Int) (a1_1 : Int) (a1_2 : Int) (a1_3 : Int) (a1_4 : Int) (a1_5 : Int) (a1_6 : Int) (w : World) (h0_0 : HasAS w w.heap.size a0_0 n0_0 z0_0) (m0_0 : n0_0 ≤ 9223372036854775807) (f0_0 : ∀ x ∈ z0_0, TAS.fits x) (h0_1 : HasLink w w.heap.size a0_1 n0_1 z0_1) (m0_1 : n0_1 ≤ 9223372036854775807) (f0_1 : ∀ x ∈ z0_1, TLink.fits x) (w1_0 : (Lit.int .i64 a1_0).wf = true) (w1_1 : (Lit.int .i64 a1_1).wf = true) (w1_2 : (Lit.int .i64 a1_2).wf = true) (w1_3 : (Lit.int .i64 a1_3).wf = true) (w1_4 : (Lit.int .i64 a1_4).wf = true) (w1_5 : (Lit.int .i64 a1_5).wf = true) (w1_6 : (Lit.int .i64 a1_6).wf = true) (htab : Lib.TabIs Tryd.prog w "internal/strconv.uint64pow10" .u64 Lib.pow10Tab) :
    Calls Tryd.prog 4 #[.agg #[.slice a0_0 n0_0 c0_0, .slice a0_1 n0_1 c0_1], .agg #[.int .i64 a1_0, .int .i64 a1_1, .int .i64 a1_2, .int .i64 a1_3, .int .i64 a1_4, .int .i64 a1_5, .int .i64 a1_6]] w fun e w' => e = .returned (.bool true) ∧ Below w.heap.size w w' := by
  by_cases hbig0 : (1048576 : Int) < (n0_0 : Int) + (n0_1 : Int)
  · go_enter Tryd.func4, Tryd.ntmps4
    go_wp2_with fail
    have M0 : Mk0 w ((w.alloc (Obj.cells #[Value.slice a0_0 n0_0 c0_0, Value.slice a0_1 n0_1 c0_1] 36)).alloc (Obj.cells #[Value.int .i64 a1_0, Value.int .i64 a1_1, Value.int .i64 a1_2, Value.int .i64 a1_3, Value.int .i64 a1_4, Value.int .i64 a1_5, Value.int .i64 a1_6] 40)) := ((Mk.alloc w _).new _)
    have k0_0 : ((w.alloc (Obj.cells #[Value.slice a0_0 n0_0 c0_0, Value.slice a0_1 n0_1 c0_1] 36)).alloc (Obj.cells #[Value.int .i64 a1_0, Value.int .i64 a1_1, Value.int .i64 a1_2, Value.int .i64 a1_3, Value.int .i64 a1_4, Value.int .i64 a1_5, Value.int .i64 a1_6] 40)).cell? ⟨w.heap.size, 0, none⟩ = some (.slice a0_0 n0_0 c0_0) := by simp [go_sem]
    have k0_1 : ((w.alloc (Obj.cells #[Value.slice a0_0 n0_0 c0_0, Value.slice a0_1 n0_1 c0_1] 36)).alloc (Obj.cells #[Value.int .i64 a1_0, Value.int .i64 a1_1, Value.int .i64 a1_2, Value.int .i64 a1_3, Value.int .i64 a1_4, Value.int .i64 a1_5, Value.int .i64 a1_6] 40)).cell? ⟨w.heap.size, 1, none⟩ = some (.slice a0_1 n0_1 c0_1) := by simp [go_sem]
    have k1_0 : ((w.alloc (Obj.cells #[Value.slice a0_0 n0_0 c0_0, Value.slice a0_1 n0_1 c0_1] 36)).alloc (Obj.cells #[Value.int .i64 a1_0, Value.int .i64 a1_1, Value.int .i64 a1_2, Value.int .i64 a1_3, Value.int .i64 a1_4, Value.int .i64 a1_5, Value.int .i64 a1_6] 40)).cell? ⟨w.heap.size + 1, 0, none⟩ = some (.int .i64 a1_0) := by simp [go_sem]
    have k1_1 : ((w.alloc (Obj.cells #[Value.slice a0_0 n0_0 c0_0, Value.slice a0_1 n0_1 c0_1] 36)).alloc (Obj.cells #[Value.int .i64 a1_0, Value.int .i64 a1_1, Value.int .i64 a1_2, Value.int .i64 a1_3, Value.int .i64 a1_4, Value.int .i64 a1_5, Value.int .i64 a1_6] 40)).cell? ⟨w.heap.size + 1, 1, none⟩ = some (.int .i64 a1_1) := by simp [go_sem]
    have k1_2 : ((w.alloc (Obj.cells #[Value.slice a0_0 n0_0 c0_0, Value.slice a0_1 n0_1 c0_1] 36)).alloc (Obj.cells #[Value.int .i64 a1_0, Value.int .i64 a1_1, Value.int .i64 a1_2, Value.int .i64 a1_3, Value.int .i64 a1_4, Value.int .i64 a1_5, Value.int .i64 a1_6] 40)).cell? ⟨w.heap.size + 1, 2, none⟩ = some (.int .i64 a1_2) := by simp [go_sem]
    have k1_3 : ((w.alloc (Obj.cells #[Value.slice a0_0 n0_0 c0_0, Value.slice a0_1 n0_1 c0_1] 36)).alloc (Obj.cells #[Value.int .i64 a1_0, Value.int .i64 a1_1, Value.int .i64 a1_2, Value.int .i64 a1_3, Value.int .i64 a1_4, Value.int .i64 a1_5, Value.int .i64 a1_6] 40)).cell? ⟨w.heap.size + 1, 3, none⟩ = some (.int .i64 a1_3) := by simp [go_sem]
    have k1_4 : ((w.alloc (Obj.cells #[Value.slice a0_0 n0_0 c0_0, Value.slice a0_1 n0_1 c0_1] 36)).alloc (Obj.cells #[Value.int .i64 a1_0, Value.int .i64 a1_1, Value.int .i64 a1_2, Value.int .i64 a1_3, Value.int .i64 a1_4, Value.int .i64 a1_5, Value.int .i64 a1_6] 40)).cell? ⟨w.heap.size + 1, 4, none⟩ = some (.int .i64 a1_4) := by simp [go_sem]
    have k1_5 : ((w.alloc (Obj.cells #[Value.slice a0_0 n0_0 c0_0, Value.slice a0_1 n0_1 c0_1] 36)).alloc (Obj.cells #[Value.int .i64 a1_0, Value.int .i64 a1_1, Value.int .i64 a1_2, Value.int .i64 a1_3, Value.int .i64 a1_4, Value.int .i64 a1_5, Value.int .i64 a1_6] 40)).cell? ⟨w.heap.size + 1, 5, none⟩ = some (.int .i64 a1_5) := by simp [go_sem]
    have k1_6 : ((w.alloc (Obj.cells #[Value.slice a0_0 n0_0 c0_0, Value.slice a0_1 n0_1 c0_1] 36)).alloc (Obj.cells #[Value.int .i64 a1_0, Value.int .i64 a1_1, Value.int .i64 a1_2, Value.int .i64 a1_3, Value.int .i64 a1_4, Value.int .i64 a1_5, Value.int .i64 a1_6] 40)).cell? ⟨w.heap.size + 1, 6, none⟩ = some (.int .i64 a1_6) := by simp [go_sem]
    refine (szTopologyB _ _ _ _ _ _ _ _ (by omega) (by omega) (by omega) m0_0 m0_1).mono ?_
    rintro e w1 ⟨rfl, m1⟩
    go_wp2_with fail
    go_ret
    exact ⟨rfl, (M0.trans m1).below0⟩
  have hn0 : (n0_0 : Int) + (n0_1 : Int) ≤ (1048576 : Int) := by omega
  clear hbig0
  go_enter Tryd.func4, Tryd.ntmps4
  go_wp2_with fail
  have M0 : Mk0 w ((w.alloc (Obj.cells #[Value.slice a0_0 n0_0 c0_0, Value.slice a0_1 n0_1 c0_1] 36)).alloc (Obj.cells #[Value.int .i64 a1_0, Value.int .i64 a1_1, Value.int .i64 a1_2, Value.int .i64 a1_3, Value.int .i64 a1_4, Value.int .i64 a1_5, Value.int .i64 a1_6] 40)) := ((Mk.alloc w _).new _)
  have k0_0 : ((w.alloc (Obj.cells #[Value.slice a0_0 n0_0 c0_0, Value.slice a0_1 n0_1 c0_1] 36)).alloc (Obj.cells #[Value.int .i64 a1_0, Value.int .i64 a1_1, Value.int .i64 a1_2, Value.int .i64 a1_3, Value.int .i64 a1_4, Value.int .i64 a1_5, Value.int .i64 a1_6] 40)).cell? ⟨w.heap.size, 0, none⟩ = some (.slice a0_0 n0_0 c0_0) := by simp [go_sem]
  have k0_1 : ((w.alloc (Obj.cells #[Value.slice a0_0 n0_0 c0_0, Value.slice a0_1 n0_1 c0_1] 36)).alloc (Obj.cells #[Value.int .i64 a1_0, Value.int .i64 a1_1, Value.int .i64 a1_2, Value.int .i64 a1_3, Value.int .i64 a1_4, Value.int .i64 a1_5, Value.int .i64 a1_6] 40)).cell? ⟨w.heap.size, 1, none⟩ = some (.slice a0_1 n0_1 c0_1) := by simp [go_sem]
  have k1_0 : ((w.alloc (Obj.cells #[Value.slice a0_0 n0_0 c0_0, Value.slice a0_1 n0_1 c0_1] 36)).alloc (Obj.cells #[Value.int .i64 a1_0, Value.int .i64 a1_1, Value.int .i64 a1_2, Value.int .i64 a1_3, Value.int .i64 a1_4, Value.int .i64 a1_5, Value.int .i64 a1_6] 40)).cell? ⟨w.heap.size + 1, 0, none⟩ = some (.int .i64 a1_0) := by simp [go_sem]
  have k1_1 : ((w.alloc (Obj.cells #[Value.slice a0_0 n0_0 c0_0, Value.slice a0_1 n0_1 c0_1] 36)).alloc (Obj.cells #[Value.int .i64 a1_0, Value.int .i64 a1_1, Value.int .i64 a1_2, Value.int .i64 a1_3, Value.int .i64 a1_4, Value.int .i64 a1_5, Value.int .i64 a1_6] 40)).cell? ⟨w.heap.size + 1, 1, none⟩ = some (.int .i64 a1_1) := by simp [go_sem]
  have k1_2 : ((w.alloc (Obj.cells #[Value.slice a0_0 n0_0 c0_0, Value.slice a0_1 n0_1 c0_1] 36)).alloc (Obj.cells #[Value.int .i64 a1_0, Value.int .i64 a1_1, Value.int .i64 a1_2, Value.int .i64 a1_3, Value.int .i64 a1_4, Value.int .i64 a1_5, Value.int .i64 a1_6] 40)).cell? ⟨w.heap.size + 1, 2, none⟩ = some (.int .i64 a1_2) := by simp [go_sem]
  have k1_3 : ((w.alloc (Obj.cells #[Value.slice a0_0 n0_0 c0_0, Value.slice a0_1 n0_1 c0_1] 36)).alloc (Obj.cells #[Value.int .i64 a1_0, Value.int .i64 a1_1, Value.int .i64 a1_2, Value.int .i64 a1_3, Value.int .i64 a1_4, Value.int .i64 a1_5, Value.int .i64 a1_6] 40)).cell? ⟨w.heap.size + 1, 3, none⟩ = some (.int .i64 a1_3) := by simp [go_sem]
  have k1_4 : ((w.alloc (Obj.cells #[Value.slice a0_0 n0_0 c0_0, Value.slice a0_1 n0_1 c0_1] 36)).alloc (Obj.cells #[Value.int .i64 a1_0, Value.int .i64 a1_1, Value.int .i64 a1_2, Value.int .i64 a1_3, Value.int .i64 a1_4, Value.int .i64 a1_5, Value.int .i64 a1_6] 40)).cell? ⟨w.heap.size + 1, 4, none⟩ = some (.int .i64 a1_4) := by simp [go_sem]
  have k1_5 : ((w.alloc (Obj.cells #[Value.slice a0_0 n0_0 c0_0, Value.slice a0_1 n0_1 c0_1] 36)).alloc (Obj.cells #[Value.int .i64 a1_0, Value.int .i64 a1_1, Value.int .i64 a1_2, Value.int .i64 a1_3, Value.int .i64 a1_4, Value.int .i64 a1_5, Value.int .i64 a1_6] 40)).cell? ⟨w.heap.size + 1, 5, none⟩ = some (.int .i64 a1_5) := by simp [go_sem]
  have k1_6 : ((w.alloc (Obj.cells #[Value.slice a0_0 n0_0 c0_0, Value.slice a0_1 n0_1 c0_1] 36)).alloc (Obj.cells #[Value.int .i64 a1_0, Value.int .i64 a1_1, Value.int .i64 a1_2, Value.int .i64 a1_3, Value.int .i64 a1_4, Value.int .i64 a1_5, Value.int .i64 a1_6] 40)).cell? ⟨w.heap.size + 1, 6, none⟩ = some (.int .i64 a1_6) := by simp [go_sem]
  refine (szTopologyC _ _ _ _ _ _ _ _ (by omega) (by omega) (by omega)).mono ?_
  rintro e w1 ⟨l1, hl1, rfl, m1⟩
  have M1 := M0.trans m1
  replace k0_0 := m1.cellAt k0_0
  replace k0_1 := m1.cellAt k0_1
  replace k1_0 := m1.cellAt k1_0
  replace k1_1 := m1.cellAt k1_1
  replace k1_2 := m1.cellAt k1_2
  replace k1_3 := m1.cellAt k1_3
  replace k1_4 := m1.cellAt k1_4
  replace k1_5 := m1.cellAt k1_5
  replace k1_6 := m1.cellAt k1_6
  have z1 := m1.size
  simp only [World.size_alloc] at z1
  go_wp2_with fail
  have e1 : ∀ w', Mk0 w1 w' → HasAS w' w.heap.size a0_0 n0_0 z0_0 := fun w' m => h0_0.mk (M1.trans m) (Nat.le_refl _) (.inr (Nat.le_refl _))
  have e2 : ∀ w', Mk0 w1 w' → HasLink w' w.heap.size a0_1 n0_1 z0_1 := fun w' m => h0_1.mk (M1.trans m) (Nat.le_refl _) (.inr (Nat.le_refl _))
  have hN0_0 : n0_0 ≤ 1048576 := by omega
  have hN0_1 : n0_1 ≤ 1048576 := by omega
  go_region_held3 (fun w' => Mk0 w1 w' ∧ w'.cell? ⟨w.heap.size, 0, none⟩ = some (.slice a0_0 n0_0 c0_0) ∧ w'.cell? ⟨w.heap.size, 1, none⟩ = some (.slice a0_1 n0_1 c0_1) ∧ w'.cell? ⟨w.heap.size + 1, 0, none⟩ = some (.int .i64 a1_0) ∧ w'.cell? ⟨w.heap.size + 1, 1, none⟩ = some (.int .i64 a1_1) ∧ w'.cell? ⟨w.heap.size + 1, 2, none⟩ = some (.int .i64 a1_2) ∧ w'.cell? ⟨w.heap.size + 1, 3, none⟩ = some (.int .i64 a1_3) ∧ w'.cell? ⟨w.heap.size + 1, 4, none⟩ = some (.int .i64 a1_4) ∧ w'.cell? ⟨w.heap.size + 1, 5, none⟩ = some (.int .i64 a1_5) ∧ w'.cell? ⟨w.heap.size + 1, 6, none⟩ = some (.int .i64 a1_6)) (first | exact ⟨Mk.drew1 _, k0_0, k0_1, k1_0, k1_1, k1_2, k1_3, k1_4, k1_5, k1_6⟩ | (obtain ⟨s0, s1, s2, s3, s4, s5, s6, s7, s8, s9⟩ := ‹Mk0 w1 _ ∧ _›; exact ⟨s0.trans mm, mm.cellAt s1, mm.cellAt s2, mm.cellAt s3, mm.cellAt s4, mm.cellAt s5, mm.cellAt s6, mm.cellAt s7, mm.cellAt s8, mm.cellAt s9⟩)) (first | (go_at_call 13; with_reducible refine (toTopologyC a0_0 n0_0 c0_0 z0_0 a0_1 n0_1 c0_1 z0_1 w.heap.size _ (e1 _ (‹Mk0 w1 _ ∧ _›).1) (e2 _ (‹Mk0 w1 _ ∧ _›).1) (M1.trans (‹Mk0 w1 _ ∧ _›).1).size hN0_0 hN0_1).mono ?_; rintro e wc0 ⟨bc0_0, bc0_1, dc0_0, rfl, oc0_0, oc0_1, gc0_0, gc0_1, mc0⟩; have mm := mc0) | (go_at_call 14; with_reducible refine (toCertificateV a1_0 a1_1 a1_2 a1_3 a1_4 a1_5 a1_6 _).mono ?_; rintro e wf1 ⟨rfl, mf1⟩; have mm := mf1) | (go_at_call 12; refine (specFCert _ _ _ _ _ _ _ z0_0 a1_0 a1_1 a1_2 a1_3 a1_4 a1_5 a1_6 _ (by first | exact (oc0_0.has.mono gc0_1) | exact (oc0_0.has.mono gc0_1).mk mf1 (Nat.le_refl _) (.inr (Nat.le_refl _))) (by first | exact Nat.le_refl _ | exact mf1.size) hN0_0 f0_0 (i64_of w1_0).1 (i64_of w1_0).2 (i64_of w1_2).1 (i64_of w1_2).2 (i64_of w1_5).1 (i64_of w1_5).2).mono ?_; rintro e wz2 ⟨rfl, mm⟩))
  all_goals (
    obtain ⟨m2, k0_0, k0_1, k1_0, k1_1, k1_2, k1_3, k1_4, k1_5, k1_6⟩ := ‹Mk0 w1 _ ∧ _›
    refine ‹∀ (a : Act) (w : World), _ → _› _ _ ?_
    clear e1 e2 hN0_0 hN0_1
    have M2 := M1.trans m2
    have z2 := m2.size
    go_wp2_with fail
    refine (toTopologyC _ _ _ _ _ _ _ _ w.heap.size _ (h0_0.mk M2 (Nat.le_refl _) (.inr (Nat.le_refl _))) (h0_1.mk M2 (Nat.le_refl _) (.inr (Nat.le_refl _))) (by omega) (by omega) (by omega)).mono ?_
    rintro e w3 ⟨b3, b4, d5, rfl, o6, o7, g8, g9, m3⟩
    have M3 := M2.trans m3
    have z3 := m3.size
    replace k0_0 := m3.cellAt k0_0
    replace k0_1 := m3.cellAt k0_1
    replace k1_0 := m3.cellAt k1_0
    replace k1_1 := m3.cellAt k1_1
    replace k1_2 := m3.cellAt k1_2
    replace k1_3 := m3.cellAt k1_3
    replace k1_4 := m3.cellAt k1_4
    replace k1_5 := m3.cellAt k1_5
    replace k1_6 := m3.cellAt k1_6
    have h10 := o6.has.mono (B' := w3.heap.size) (by omega)
    clear o6
    have h11 := o7.has.mono (B' := w3.heap.size) (by omega)
    clear o7
    have yb12 : w.heap.size < w3.heap.size := by omega
    have yb13 : w.heap.size + 1 < w3.heap.size := by omega
    go_wp2_with fail
    have xx0_0 : (w3.alloc (Obj.cells #[Value.slice (some ⟨b3, 0, none⟩) n0_0 n0_0, Value.slice (some ⟨b4, 0, none⟩) n0_1 n0_1] 46)).cell? ⟨w3.heap.size, 0, none⟩ = some (.slice (some ⟨b3, 0, none⟩) n0_0 n0_0) := by rw [World.cell?_alloc_at _ _ _ _ rfl]; rfl
    have xx0_1 : (w3.alloc (Obj.cells #[Value.slice (some ⟨b3, 0, none⟩) n0_0 n0_0, Value.slice (some ⟨b4, 0, none⟩) n0_1 n0_1] 46)).cell? ⟨w3.heap.size, 1, none⟩ = some (.slice (some ⟨b4, 0, none⟩) n0_1 n0_1) := by rw [World.cell?_alloc_at _ _ _ _ rfl]; rfl
    have m4 := Mk.alloc w3 (Obj.cells #[Value.slice (some ⟨b3, 0, none⟩) n0_0 n0_0, Value.slice (some ⟨b4, 0, none⟩) n0_1 n0_1] 46)
    replace k0_0 := m4.cellAt k0_0
    replace k0_1 := m4.cellAt k0_1
    replace k1_0 := m4.cellAt k1_0
    replace k1_1 := m4.cellAt k1_1
    replace k1_2 := m4.cellAt k1_2
    replace k1_3 := m4.cellAt k1_3
    replace k1_4 := m4.cellAt k1_4
    replace k1_5 := m4.cellAt k1_5
    replace k1_6 := m4.cellAt k1_6
    replace h10 := h10.mk m4 (by omega) (.inr (Nat.le_refl _))
    replace h11 := h11.mk m4 (by omega) (.inr (Nat.le_refl _))
    have M4 := M3.trans m4
    have z4 := m4.size
    have zz4 : w3.heap.size < (w3.alloc (Obj.cells #[Value.slice (some ⟨b3, 0, none⟩) n0_0 n0_0, Value.slice (some ⟨b4, 0, none⟩) n0_1 n0_1] 46)).heap.size := by rw [World.size_alloc]; omega
    generalize (w3.alloc (Obj.cells #[Value.slice (some ⟨b3, 0, none⟩) n0_0 n0_0, Value.slice (some ⟨b4, 0, none⟩) n0_1 n0_1] 46)) = w4 at *
    have e14 : ∀ w', Mk0 w4 w' → HasAS w' w3.heap.size (some ⟨b3, 0, none⟩) n0_0 z0_0 := fun w' m => h10.mk m (by omega) (.inr (Nat.le_refl _))
    have e15 : ∀ w', Mk0 w4 w' → HasLink w' w3.heap.size (some ⟨b4, 0, none⟩) n0_1 z0_1 := fun w' m => h11.mk m (by omega) (.inr (Nat.le_refl _))
    have e16 : ∀ w', Mk0 w4 w' → w3.heap.size ≤ w'.heap.size := fun w' m => Nat.le_trans (by omega) m.size
    have hN0_0 : n0_0 ≤ 1048576 := by omega
    have hN0_1 : n0_1 ≤ 1048576 := by omega
    go_region_held3 (fun w' => Mk0 w4 w' ∧ w'.cell? ⟨w.heap.size, 0, none⟩ = some (.slice a0_0 n0_0 c0_0) ∧ w'.cell? ⟨w.heap.size, 1, none⟩ = some (.slice a0_1 n0_1 c0_1) ∧ w'.cell? ⟨w.heap.size + 1, 0, none⟩ = some (.int .i64 a1_0) ∧ w'.cell? ⟨w.heap.size + 1, 1, none⟩ = some (.int .i64 a1_1) ∧ w'.cell? ⟨w.heap.size + 1, 2, none⟩ = some (.int .i64 a1_2) ∧ w'.cell? ⟨w.heap.size + 1, 3, none⟩ = some (.int .i64 a1_3) ∧ w'.cell? ⟨w.heap.size + 1, 4, none⟩ = some (.int .i64 a1_4) ∧ w'.cell? ⟨w.heap.size + 1, 5, none⟩ = some (.int .i64 a1_5) ∧ w'.cell? ⟨w.heap.size + 1, 6, none⟩ = some (.int .i64 a1_6) ∧ w'.cell? ⟨w3.heap.size, 0, none⟩ = some (.slice (some ⟨b3, 0, none⟩) n0_0 n0_0) ∧ w'.cell? ⟨w3.heap.size, 1, none⟩ = some (.slice (some ⟨b4, 0, none⟩) n0_1 n0_1)) (first | exact ⟨Mk.drew1 _, k0_0, k0_1, k1_0, k1_1, k1_2, k1_3, k1_4, k1_5, k1_6, xx0_0, xx0_1⟩ | (obtain ⟨s0, s1, s2, s3, s4, s5, s6, s7, s8, s9, s10, s11⟩ := ‹Mk0 w4 _ ∧ _›; exact ⟨s0.trans mm, mm.cellAt s1, mm.cellAt s2, mm.cellAt s3, mm.cellAt s4, mm.cellAt s5, mm.cellAt s6, mm.cellAt s7, mm.cellAt s8, mm.cellAt s9, mm.cellAt s10, mm.cellAt s11⟩)) (first | (go_at_call 14; with_reducible refine (toCertificateV a1_0 a1_1 a1_2 a1_3 a1_4 a1_5 a1_6 _).mono ?_; rintro e wf1 ⟨rfl, mf1⟩; have mm := mf1) | (go_at_call 15; refine (implFCert _ _ _ _ _ _ _ z0_0 a1_0 a1_1 a1_2 a1_3 a1_4 a1_5 a1_6 _ (e14 _ (‹Mk0 w4 _ ∧ _›).1) (e16 _ (‹Mk0 w4 _ ∧ _›).1) hN0_0 f0_0 (i64_of w1_0).1 (i64_of w1_0).2 (i64_of w1_2).1 (i64_of w1_2).2 (i64_of w1_5).1 (i64_of w1_5).2 (tab_mk htab (M4.trans (‹Mk0 w4 _ ∧ _›).1))).mono ?_; rintro e wz5 ⟨rfl, mm⟩))
    obtain ⟨m5, k0_0, k0_1, k1_0, k1_1, k1_2, k1_3, k1_4, k1_5, k1_6, xx0_0, xx0_1⟩ := ‹Mk0 w4 _ ∧ _›
    refine ‹∀ (a : Act) (w : World), _ → _› _ _ ?_
    clear e14 e15 e16 hN0_0 hN0_1
    have M5 := M4.trans m5
    have z5 := m5.size
    replace h10 := h10.mk m5 (by omega) (.inr (Nat.le_refl _))
    replace h11 := h11.mk m5 (by omega) (.inr (Nat.le_refl _))
    go_wp2_with fail
    have e17 : ∀ w', Mk0 wz5 w' → HasAS w' w3.heap.size (some ⟨b3, 0, none⟩) n0_0 z0_0 := fun w' m => h10.mk m (by omega) (.inr (Nat.le_refl _))
    have e18 : ∀ w', Mk0 wz5 w' → HasLink w' w3.heap.size (some ⟨b4, 0, none⟩) n0_1 z0_1 := fun w' m => h11.mk m (by omega) (.inr (Nat.le_refl _))
    have e19 : ∀ w', Mk0 wz5 w' → w3.heap.size ≤ w'.heap.size := fun w' m => Nat.le_trans (by omega) m.size
    have e20 : ∀ w', Mk0 wz5 w' → HasAS w' w.heap.size a0_0 n0_0 z0_0 := fun w' m => h0_0.mk (M5.trans m) (Nat.le_refl _) (.inr (Nat.le_refl _))
    have e21 : ∀ w', Mk0 wz5 w' → HasLink w' w.heap.size a0_1 n0_1 z0_1 := fun w' m => h0_1.mk (M5.trans m) (Nat.le_refl _) (.inr (Nat.le_refl _))
    have hN0_0 : n0_0 ≤ 1048576 := by omega
    have hN0_1 : n0_1 ≤ 1048576 := by omega
    go_region_held3 (fun w' => Mk0 wz5 w' ∧ w'.cell? ⟨w.heap.size, 0, none⟩ = some (.slice a0_0 n0_0 c0_0) ∧ w'.cell? ⟨w.heap.size, 1, none⟩ = some (.slice a0_1 n0_1 c0_1) ∧ w'.cell? ⟨w.heap.size + 1, 0, none⟩ = some (.int .i64 a1_0) ∧ w'.cell? ⟨w.heap.size + 1, 1, none⟩ = some (.int .i64 a1_1) ∧ w'.cell? ⟨w.heap.size + 1, 2, none⟩ = some (.int .i64 a1_2) ∧ w'.cell? ⟨w.heap.size + 1, 3, none⟩ = some (.int .i64 a1_3) ∧ w'.cell? ⟨w.heap.size + 1, 4, none⟩ = some (.int .i64 a1_4) ∧ w'.cell? ⟨w.heap.size + 1, 5, none⟩ = some (.int .i64 a1_5) ∧ w'.cell? ⟨w.heap.size + 1, 6, none⟩ = some (.int .i64 a1_6) ∧ w'.cell? ⟨w3.heap.size, 0, none⟩ = some (.slice (some ⟨b3, 0, none⟩) n0_0 n0_0) ∧ w'.cell? ⟨w3.heap.size, 1, none⟩ = some (.slice (some ⟨b4, 0, none⟩) n0_1 n0_1)) (first | exact ⟨Mk.drew1 _, k0_0, k0_1, k1_0, k1_1, k1_2, k1_3, k1_4, k1_5, k1_6, xx0_0, xx0_1⟩ | (obtain ⟨s0, s1, s2, s3, s4, s5, s6, s7, s8, s9, s10, s11⟩ := ‹Mk0 wz5 _ ∧ _›; exact ⟨s0.trans mm, mm.cellAt s1, mm.cellAt s2, mm.cellAt s3, mm.cellAt s4, mm.cellAt s5, mm.cellAt s6, mm.cellAt s7, mm.cellAt s8, mm.cellAt s9, mm.cellAt s10, mm.cellAt s11⟩)) (first | (go_at_call 13; refine (toTopologyC _ _ _ _ _ _ _ _ w.heap.size _ (e20 _ (‹Mk0 wz5 _ ∧ _›).1) (e21 _ (‹Mk0 wz5 _ ∧ _›).1) (M5.trans (‹Mk0 wz5 _ ∧ _›).1).size hN0_0 hN0_1).mono ?_; rintro e wa ⟨bb0, bb1, dd0, rfl, oo0, oo1, gg0, gg1, mm⟩) | (go_at_call 16; refine (eqTopologyC _ _ _ _ _ _ _ _ _ _ _ _ _ _ _ (e17 _ (‹Mk0 wz5 _ ∧ _›).1) (e18 _ (‹Mk0 wz5 _ ∧ _›).1) (oo0.has.mono gg1) (oo1.has.mono (Nat.le_refl _)) (e19 _ (‹Mk0 wz5 _ ∧ _›).1) (Nat.le_refl _) hN0_0 hN0_1).mono ?_; rintro e wb6 ⟨rfl, mm⟩))
    obtain ⟨m6, k0_0, k0_1, k1_0, k1_1, k1_2, k1_3, k1_4, k1_5, k1_6, xx0_0, xx0_1⟩ := ‹Mk0 wz5 _ ∧ _›
    clear e17 e18 e19 e20 e21 hN0_0 hN0_1
    refine ‹∀ (a : Act) (w : World), _ → _› _ _ ?_
    have M6 := M5.trans m6
    have z6 := m6.size
    replace h10 := h10.mk m6 (by omega) (.inr (Nat.le_refl _))
    replace h11 := h11.mk m6 (by omega) (.inr (Nat.le_refl _))
    go_wp2_with fail
    go_ret
    exact ⟨rfl, M6.below0⟩)

set_option maxRecDepth 100000 in
theorem contract (H : Type) (enc : TypeId × Value → H) (W : World) (base : Nat) (args : Array Value) (ds gs : List (DataW H)) (before : List MemPlace)
    (hval0 : ∀ (j : Nat) t v, Tryd.f4.params[j]? = some t → args[j]? = some v → Value.okWide Tryd.prog W .any base t v)
    (hW : DataW.Whole enc Tryd.prog Tryd.f4.params.toList Rows.fnExactFormatCertificateSpec.vars false W args.toList ds gs before) (hL : laidMetH Tryd.prog Rows.fnExactFormatCertificateRow.laid W) :
    Calls Tryd.prog 4 args W fun e W' => ∃ v, e = .returned v ∧ Rows.fnExactFormatCertificateSpec.post enc Tryd.prog Tryd.f4 false true false false W args v W' := by
  have hval : ∀ (j : Nat) t v, Tryd.f4.params[j]? = some t → args[j]? = some v → Value.okWide Tryd.prog W .any base t v := hval0
  have hW' := hW
  obtain ⟨p, q, hA0, hV, rfl, hfz, hnd⟩ := hW
  have hA : DataW.TrodAll enc Tryd.prog W 0 (fun _ => true) true Tryd.f4.params.toList args.toList ds p := hA0
  rw [Tryd.params4] at hA hval
  obtain ⟨v0, vs0, d0, ds0, p0, q0, hargs, rfl, rfl, h0, r0⟩ := trodAll_cons hA
  obtain ⟨v1, vs1, d1, ds1, p1, q1, rfl, rfl, rfl, h1, r1⟩ := trodAll_cons r0
  obtain ⟨rfl, rfl, rfl⟩ := trodAll_nil r1
  obtain rfl : args = #[v0, v1] := by cases args; simp_all
  obtain ⟨rfl, rfl⟩ := trodVars_none hV
  have k0 := h0
  have lt0 : ∀ x ∈ p0, x.block < W.heap.size := by obtain ⟨m, hm⟩ := k0; exact DataW.trod_lt m _ _ _ hm
  obtain ⟨cs0, rfl, hcs0, hf0⟩ := open_agg Tryd.underlying36 (by kernel_rfl) (by kernel_rfl) (hval 0 36 v0 rfl rfl) h0
  obtain ⟨_, _, _, e0_0, q0_0⟩ := hf0 0 _ rfl
  obtain ⟨a0_0, n0_0, c0_0, z0_0, rfl, m0_0, h0_0, f0_0⟩ := openASS q0_0
  obtain ⟨_, _, _, e0_1, q0_1⟩ := hf0 1 _ rfl
  obtain ⟨a0_1, n0_1, c0_1, z0_1, rfl, m0_1, h0_1, f0_1⟩ := openLinkS q0_1
  obtain rfl : cs0 = #[.slice a0_0 n0_0 c0_0, .slice a0_1 n0_1 c0_1] := arr_of [.slice a0_0 n0_0 c0_0, .slice a0_1 n0_1 c0_1] hcs0 (fun j hj => by match j, hj with | 0, _ => exact e0_0 | 1, _ => exact e0_1)
  have k1 := h1
  have lt1 : ∀ x ∈ p1, x.block < W.heap.size := by obtain ⟨m, hm⟩ := k1; exact DataW.trod_lt m _ _ _ hm
  obtain ⟨cs1, rfl, hcs1, hl1⟩ := lf_open 7 Tryd.underlying40 (by kernel_rfl) (hval 1 40 v1 rfl rfl) h1
  have L1_0 := lf_field (a := 0) (b := 1) 0 _ Tryd.underlying40 rfl rfl (by kernel_rfl) (by decide) hl1
  obtain ⟨_, _, _, e1_0, q1_0⟩ := lf_leaf (o := 0) (by rw [hcs1]; decide) L1_0
  have L1_1 := lf_field (a := 1) (b := 1) 1 _ Tryd.underlying40 rfl rfl (by kernel_rfl) (by decide) hl1
  obtain ⟨_, _, _, e1_1, q1_1⟩ := lf_leaf (o := 1) (by rw [hcs1]; decide) L1_1
  have L1_2 := lf_field (a := 2) (b := 1) 2 _ Tryd.underlying40 rfl rfl (by kernel_rfl) (by decide) hl1
  obtain ⟨_, _, _, e1_2, q1_2⟩ := lf_leaf (o := 2) (by rw [hcs1]; decide) L1_2
  have L1_3 := lf_field (a := 3) (b := 1) 3 _ Tryd.underlying40 rfl rfl (by kernel_rfl) (by decide) hl1
  obtain ⟨_, _, _, e1_3, q1_3⟩ := lf_leaf (o := 3) (by rw [hcs1]; decide) L1_3
  have L1_4 := lf_field (a := 4) (b := 1) 4 _ Tryd.underlying40 rfl rfl (by kernel_rfl) (by decide) hl1
  obtain ⟨_, _, _, e1_4, q1_4⟩ := lf_leaf (o := 4) (by rw [hcs1]; decide) L1_4
  have L1_5 := lf_field (a := 5) (b := 2) 5 _ Tryd.underlying40 rfl rfl (by kernel_rfl) (by decide) hl1
  have L1_5x0 := lf_field (a := 0) (b := 1) 0 _ Tryd.underlying38 rfl rfl (by kernel_rfl) (by decide) L1_5
  obtain ⟨_, _, _, e1_5, q1_5⟩ := lf_leaf (o := 5) (by rw [hcs1]; decide) L1_5x0
  have L1_5x1 := lf_field (a := 1) (b := 1) 1 _ Tryd.underlying38 rfl rfl (by kernel_rfl) (by decide) L1_5
  obtain ⟨_, _, _, e1_6, q1_6⟩ := lf_leaf (o := 6) (by rw [hcs1]; decide) L1_5x1
  obtain ⟨a1_0, rfl, w1_0⟩ := one_int Tryd.underlying3 q1_0
  obtain ⟨a1_1, rfl, w1_1⟩ := one_int Tryd.underlying3 q1_1
  obtain ⟨a1_2, rfl, w1_2⟩ := one_int Tryd.underlying3 q1_2
  obtain ⟨a1_3, rfl, w1_3⟩ := one_int Tryd.underlying3 q1_3
  obtain ⟨a1_4, rfl, w1_4⟩ := one_int Tryd.underlying3 q1_4
  obtain ⟨a1_5, rfl, w1_5⟩ := one_int Tryd.underlying3 q1_5
  obtain ⟨a1_6, rfl, w1_6⟩ := one_int Tryd.underlying3 q1_6
  obtain rfl : cs1 = #[.int .i64 a1_0, .int .i64 a1_1, .int .i64 a1_2, .int .i64 a1_3, .int .i64 a1_4, .int .i64 a1_5, .int .i64 a1_6] := arr_of [.int .i64 a1_0, .int .i64 a1_1, .int .i64 a1_2, .int .i64 a1_3, .int .i64 a1_4, .int .i64 a1_5, .int .i64 a1_6] hcs1 (fun j hj => by match j, hj with | 0, _ => exact e1_0 | 1, _ => exact e1_1 | 2, _ => exact e1_2 | 3, _ => exact e1_3 | 4, _ => exact e1_4 | 5, _ => exact e1_5 | 6, _ => exact e1_6)
  clear hA0 hval0
  refine (walk a0_0 n0_0 c0_0 z0_0 a0_1 n0_1 c0_1 z0_1 a1_0 a1_1 a1_2 a1_3 a1_4 a1_5 a1_6 W h0_0 m0_0 f0_0 h0_1 m0_1 f0_1 w1_0 w1_1 w1_2 w1_3 w1_4 w1_5 w1_6 (table hL)).mono fun e W' ⟨he, bel⟩ => ?_
  subst he
  exact ⟨_, rfl, _, _, _, [], _, [], hW', trodAll_mk1 (shut_bool Tryd.underlying4 _), (trodAll_cons_mk (Below.trod laidOut (by kernel_rfl) (of_decide_eq_true (by kernel_rfl)) k0 bel lt0) (trodAll_cons_mk (Below.trod laidOut (by kernel_rfl) (of_decide_eq_true (by kernel_rfl)) k1 bel lt1) trodAll_mk0)), rfl, bel.frame _, fun h => by cases h⟩

noncomputable def laidWorld (os : Os) : World :=
  { World.holding Tryd.prog os ⟨#[], #[], []⟩ with heap := ((((World.holding Tryd.prog os ⟨#[], #[], []⟩).heap.modify 1 fun | .cells _ t frozen => .cells #[.int .u8 0, .int .u8 1, .int .u8 28, .int .u8 2, .int .u8 29, .int .u8 14, .int .u8 24, .int .u8 3, .int .u8 30, .int .u8 22, .int .u8 20, .int .u8 15, .int .u8 25, .int .u8 17, .int .u8 4, .int .u8 8, .int .u8 31, .int .u8 27, .int .u8 13, .int .u8 23, .int .u8 21, .int .u8 19, .int .u8 16, .int .u8 7, .int .u8 26, .int .u8 12, .int .u8 18, .int .u8 6, .int .u8 11, .int .u8 5, .int .u8 10, .int .u8 9] t frozen | o => o).modify 2 fun | .cells _ t frozen => .cells #[.int .u8 0, .int .u8 1, .int .u8 56, .int .u8 2, .int .u8 57, .int .u8 49, .int .u8 28, .int .u8 3, .int .u8 61, .int .u8 58, .int .u8 42, .int .u8 50, .int .u8 38, .int .u8 29, .int .u8 17, .int .u8 4, .int .u8 62, .int .u8 47, .int .u8 59, .int .u8 36, .int .u8 45, .int .u8 43, .int .u8 51, .int .u8 22, .int .u8 53, .int .u8 39, .int .u8 33, .int .u8 30, .int .u8 24, .int .u8 18, .int .u8 12, .int .u8 5, .int .u8 63, .int .u8 55, .int .u8 48, .int .u8 27, .int .u8 60, .int .u8 41, .int .u8 37, .int .u8 16, .int .u8 46, .int .u8 35, .int .u8 44, .int .u8 21, .int .u8 52, .int .u8 32, .int .u8 23, .int .u8 11, .int .u8 54, .int .u8 26, .int .u8 40, .int .u8 15, .int .u8 34, .int .u8 20, .int .u8 31, .int .u8 10, .int .u8 25, .int .u8 14, .int .u8 19, .int .u8 9, .int .u8 13, .int .u8 8, .int .u8 7, .int .u8 6] t frozen | o => o).modify 0 fun | .cells _ t frozen => .cells #[.int .u64 1, .int .u64 10, .int .u64 100, .int .u64 1000, .int .u64 10000, .int .u64 100000, .int .u64 1000000, .int .u64 10000000, .int .u64 100000000, .int .u64 1000000000, .int .u64 10000000000, .int .u64 100000000000, .int .u64 1000000000000, .int .u64 10000000000000, .int .u64 100000000000000, .int .u64 1000000000000000, .int .u64 10000000000000000, .int .u64 100000000000000000, .int .u64 1000000000000000000, .int .u64 10000000000000000000] t frozen | o => o) }
theorem laid_met (os : Os) : laidMet Tryd.prog Rows.fnExactFormatCertificateRow.laid ((laidWorld os).forCall (fun _ _ => 0) ⟨#[], #[.agg #[.slice none 0 0, .slice none 0 0], .agg #[.int .i64 0, .int .i64 0, .int .i64 0, .int .i64 0, .int .i64 0, .int .i64 0, .int .i64 0]], []⟩).memory :=
  laidMet_of_run' 8 (by kernel_rfl) (by kernel_rfl)
theorem reads (os : Os) {H : Type} (enc : TypeId × Value → H) : ∃ places, DataW.whole enc Tryd.prog ((laidWorld os).forCall (fun _ _ => 0) ⟨#[], #[.agg #[.slice none 0 0, .slice none 0 0], .agg #[.int .i64 0, .int .i64 0, .int .i64 0, .int .i64 0, .int .i64 0, .int .i64 0, .int .i64 0]], []⟩).memory Tryd.f4.params.toList Rows.fnExactFormatCertificateSpec.vars false #[.agg #[.slice none 0 0, .slice none 0 0], .agg #[.int .i64 0, .int .i64 0, .int .i64 0, .int .i64 0, .int .i64 0, .int .i64 0, .int .i64 0]].toList 8 = some ([.agg [.nil, .nil], .agg [.lit (.int .i64 0), .lit (.int .i64 0), .lit (.int .i64 0), .lit (.int .i64 0), .lit (.int .i64 0), .agg [.lit (.int .i64 0), .lit (.int .i64 0)]]], [], places) :=
  ⟨[], by kernel_rfl⟩
set_option maxRecDepth 100000 in
theorem lifted (os : Os) (started : os.Started) (H : Type) (enc : TypeId × Value → H) (F : Stop.Interp) :
    ReturnsInHanded {} Tryd.checked os 4 .any ((OpenSpec.ofChange Rows.fnExactFormatCertificateSpec).preRow enc Tryd.prog Tryd.f4 Rows.fnExactFormatCertificateRow.domain false Rows.fnExactFormatCertificateRow.laid) (((OpenSpec.ofChange Rows.fnExactFormatCertificateSpec).at F).post enc Tryd.prog Tryd.f4 false true false false) := by
  obtain ⟨places, hx⟩ := reads os enc
  refine returnsInHanded_of_row (C := Tryd.checked) (s := (OpenSpec.ofChange Rows.fnExactFormatCertificateSpec)) own started (by kernel_rfl) Tryd.func4
    (witness_row_at (enc := enc) (C := Tryd.checked) false (laidWorld os) #[.agg #[.slice none 0 0, .slice none 0 0], .agg #[.int .i64 0, .int .i64 0, .int .i64 0, .int .i64 0, .int .i64 0, .int .i64 0, .int .i64 0]] rfl (by kernel_rfl) (by kernel_rfl) (by kernel_rfl)
      (OpenSpec.preRow_of_cond 8 hx (by kernel_rfl) (fun k hk => by cases hk) (by kernel_rfl) (laid_met os))) ?_
  intro W base args ds gs before hval hW _ _ _ hL _ _
  exact contract H enc W base args ds gs before hval hW hL

theorem said : Rows.FnExactFormatCertificateSaid :=
  OpenClaim.holds_of_cond 4 Tryd.f4 rfl rfl rfl rfl rfl rfl rfl ⟨rfl, rfl, rfl, rfl, rfl⟩ rfl rfl rfl rfl rfl (by kernel_rfl) Tryd.func4 (by kernel_rfl)
    (of_decide_eq_true (by kernel_rfl)) (by unfold Func.isWrapper; first | (rw [if_pos (by decide +kernel)]; kernel_rfl) | (rw [if_neg (by decide +kernel)]; exact ⟨rfl, rfl⟩))
    (fun os started H enc _ F => by rw [OpenClaim.pre_eq_preRow]; exact lifted os started H enc F)
theorem plain (f : FuncId) (fn : Func) (hf : Tryd.pinned.checked.prog.funcNamed "loop.example/g00505/laws.FnExactFormatCertificate" = some f) (hfn : Tryd.pinned.checked.prog.funcs[f]? = some fn) :
    false = Tryd.pinned.checked.prog.looks [] ∧ ∀ (j : Nat) t, fn.params[j]? = some t → Tryd.pinned.checked.prog.wantsStandIn t = false := by
  obtain rfl : f = 4 := Option.some.inj ((show Tryd.prog.funcNamed "loop.example/g00505/laws.FnExactFormatCertificate" = some 4 by kernel_rfl).symm.trans hf) |>.symm
  obtain rfl : fn = Tryd.f4 := (Option.some.inj (Tryd.func4.symm.trans hfn)).symm
  refine ⟨by kernel_rfl, fun j t ht => ?_⟩
  rw [Tryd.params4] at ht
  have ht' := Array.mem_of_getElem? ht
  simp only [List.mem_toArray, List.mem_cons, List.not_mem_nil, or_false] at ht'
  rcases ht' with rfl | rfl
  · exact (show Tryd.prog.wantsStandIn 36 = false by kernel_rfl)
  · exact (show Tryd.prog.wantsStandIn 40 = false by kernel_rfl)
theorem proved : Rows.FnExactFormatCertificateCardSaid :=
  Claim7.holds_tied_plain_at .later [] _ _ _ _ said (fun _ h => by cases h) (by kernel_rfl) (fun _ h => by cases h) fnExactFormatCertificate_row_tie rfl ⟨rfl, rfl⟩ (by kernel_rfl) rfl plain (by kernel_rfl)
#print axioms proved
end Go.Proofs.YtgchhkgcdcknlaaDoor.fnExactFormatCertificate
