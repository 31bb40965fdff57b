
/- For every two segments, the law on JoinUpDown returns true; no further condition. -/
import Derived.Test.YtbkbkpnpllemfaaRows
import Derived.WalkKit
import Derived.ProofKit
import Derived.OpenShut
import Derived.ShutString
import Derived.ChangeOld
import Derived.Below
import Derived.Test.YtbkbkpnpllemfaaOHop
import Derived.Test.YtbkbkpnpllemfaaZHop
import Derived.Test.YtbkbkpnpllemfaaStruct
import Derived.Deep.RegionHeld3
import Derived.Test.YtbkbkpnpllemfaaJudI
import Derived.Test.YtbkbkpnpllemfaaEqB
import Derived.Test.YtbkbkpnpllemfaaKSegment
import Derived.Test.YtbkbkpnpllemfaaCSegment
import Derived.Test.YtbkbkpnpllemfaaFg
import Derived.Test.YtbkbkpnpllemfaaMnPath
namespace Go.Proofs.Ytbkbkpnpllemfaa.fnExactJoinUpDown
open Go.ChangeShapes Go.WideShapes Go.ChangeAt Go.RowKit
open Go.ChangeMaps (open_string shut_string)
set_option linter.unusedVariables false

theorem own : ownKnob Try.prog.godebug = none := by kernel_rfl
theorem laidOut : laidOutB Try.prog = true := by kernel_rfl

set_option maxRecDepth 100000 in
set_option maxHeartbeats 4000000 in
theorem walk (a0_0 : Int) (a0_1 : Int) (a0_2 : Option Addr) (n0_2 c0_2 : Nat) (z0_2 : List THop) (a1_0 : Int) (a1_1 : Int) (a1_2 : Option Addr) (n1_2 c1_2 : Nat) (z1_2 : List THop) (w : World) (w0_0 : (Lit.int .i64 a0_0).wf = true) (w0_1 : (Lit.int .i64 a0_1).wf = true) (h0_2 : HasHop w w.heap.size a0_2 n0_2 z0_2) (m0_2 : n0_2 ≤ 9223372036854775807) (f0_2 : ∀ x ∈ z0_2, THop.fits x) (w1_0 : (Lit.int .i64 a1_0).wf = true) (w1_1 : (Lit.int .i64 a1_1).wf = true) (h1_2 : HasHop w w.heap.size a1_2 n1_2 z1_2) (m1_2 : n1_2 ≤ 9223372036854775807) (f1_2 : ∀ x ∈ z1_2, THop.fits x) :
    Calls Try.prog 5 #[.agg #[.int .i64 a0_0, .int .i64 a0_1, .slice a0_2 n0_2 c0_2], .agg #[.int .i64 a1_0, .int .i64 a1_1, .slice a1_2 n1_2 c1_2]] w fun e w' => e = .returned (.bool true) ∧ Below w.heap.size w w' := by
  by_cases hbig0 : (1048576 : Int) < (n0_2 : Int)
  · go_enter Try.func5, Try.ntmps5
    go_wp2_with fail
    have M0 : Mk0 w ((w.alloc (Obj.cells #[Value.int .i64 a0_0, Value.int .i64 a0_1, Value.slice a0_2 n0_2 c0_2] 24)).alloc (Obj.cells #[Value.int .i64 a1_0, Value.int .i64 a1_1, Value.slice a1_2 n1_2 c1_2] 24)) := ((Mk.alloc w _).new _)
    have k0_0 : ((w.alloc (Obj.cells #[Value.int .i64 a0_0, Value.int .i64 a0_1, Value.slice a0_2 n0_2 c0_2] 24)).alloc (Obj.cells #[Value.int .i64 a1_0, Value.int .i64 a1_1, Value.slice a1_2 n1_2 c1_2] 24)).cell? ⟨w.heap.size, 0, none⟩ = some (.int .i64 a0_0) := by simp [go_sem]
    have k0_1 : ((w.alloc (Obj.cells #[Value.int .i64 a0_0, Value.int .i64 a0_1, Value.slice a0_2 n0_2 c0_2] 24)).alloc (Obj.cells #[Value.int .i64 a1_0, Value.int .i64 a1_1, Value.slice a1_2 n1_2 c1_2] 24)).cell? ⟨w.heap.size, 1, none⟩ = some (.int .i64 a0_1) := by simp [go_sem]
    have k0_2 : ((w.alloc (Obj.cells #[Value.int .i64 a0_0, Value.int .i64 a0_1, Value.slice a0_2 n0_2 c0_2] 24)).alloc (Obj.cells #[Value.int .i64 a1_0, Value.int .i64 a1_1, Value.slice a1_2 n1_2 c1_2] 24)).cell? ⟨w.heap.size, 2, none⟩ = some (.slice a0_2 n0_2 c0_2) := by simp [go_sem]
    have k1_0 : ((w.alloc (Obj.cells #[Value.int .i64 a0_0, Value.int .i64 a0_1, Value.slice a0_2 n0_2 c0_2] 24)).alloc (Obj.cells #[Value.int .i64 a1_0, Value.int .i64 a1_1, Value.slice a1_2 n1_2 c1_2] 24)).cell? ⟨w.heap.size + 1, 0, none⟩ = some (.int .i64 a1_0) := by simp [go_sem]
    have k1_1 : ((w.alloc (Obj.cells #[Value.int .i64 a0_0, Value.int .i64 a0_1, Value.slice a0_2 n0_2 c0_2] 24)).alloc (Obj.cells #[Value.int .i64 a1_0, Value.int .i64 a1_1, Value.slice a1_2 n1_2 c1_2] 24)).cell? ⟨w.heap.size + 1, 1, none⟩ = some (.int .i64 a1_1) := by simp [go_sem]
    have k1_2 : ((w.alloc (Obj.cells #[Value.int .i64 a0_0, Value.int .i64 a0_1, Value.slice a0_2 n0_2 c0_2] 24)).alloc (Obj.cells #[Value.int .i64 a1_0, Value.int .i64 a1_1, Value.slice a1_2 n1_2 c1_2] 24)).cell? ⟨w.heap.size + 1, 2, none⟩ = some (.slice a1_2 n1_2 c1_2) := by simp [go_sem]
    refine (szSegmentB _ _ _ _ _ _ _ (by omega) (by omega) (by omega) m0_2).mono ?_
    rintro e w1 ⟨rfl, m1⟩
    go_wp2_with fail
    go_ret
    exact ⟨rfl, (M0.trans m1).below0⟩
  have hn0 : (n0_2 : Int) ≤ (1048576 : Int) := by omega
  clear hbig0
  by_cases hbig1 : (1048576 - n0_2 : Int) < (n1_2 : Int)
  · go_enter Try.func5, Try.ntmps5
    go_wp2_with fail
    have M0 : Mk0 w ((w.alloc (Obj.cells #[Value.int .i64 a0_0, Value.int .i64 a0_1, Value.slice a0_2 n0_2 c0_2] 24)).alloc (Obj.cells #[Value.int .i64 a1_0, Value.int .i64 a1_1, Value.slice a1_2 n1_2 c1_2] 24)) := ((Mk.alloc w _).new _)
    have k0_0 : ((w.alloc (Obj.cells #[Value.int .i64 a0_0, Value.int .i64 a0_1, Value.slice a0_2 n0_2 c0_2] 24)).alloc (Obj.cells #[Value.int .i64 a1_0, Value.int .i64 a1_1, Value.slice a1_2 n1_2 c1_2] 24)).cell? ⟨w.heap.size, 0, none⟩ = some (.int .i64 a0_0) := by simp [go_sem]
    have k0_1 : ((w.alloc (Obj.cells #[Value.int .i64 a0_0, Value.int .i64 a0_1, Value.slice a0_2 n0_2 c0_2] 24)).alloc (Obj.cells #[Value.int .i64 a1_0, Value.int .i64 a1_1, Value.slice a1_2 n1_2 c1_2] 24)).cell? ⟨w.heap.size, 1, none⟩ = some (.int .i64 a0_1) := by simp [go_sem]
    have k0_2 : ((w.alloc (Obj.cells #[Value.int .i64 a0_0, Value.int .i64 a0_1, Value.slice a0_2 n0_2 c0_2] 24)).alloc (Obj.cells #[Value.int .i64 a1_0, Value.int .i64 a1_1, Value.slice a1_2 n1_2 c1_2] 24)).cell? ⟨w.heap.size, 2, none⟩ = some (.slice a0_2 n0_2 c0_2) := by simp [go_sem]
    have k1_0 : ((w.alloc (Obj.cells #[Value.int .i64 a0_0, Value.int .i64 a0_1, Value.slice a0_2 n0_2 c0_2] 24)).alloc (Obj.cells #[Value.int .i64 a1_0, Value.int .i64 a1_1, Value.slice a1_2 n1_2 c1_2] 24)).cell? ⟨w.heap.size + 1, 0, none⟩ = some (.int .i64 a1_0) := by simp [go_sem]
    have k1_1 : ((w.alloc (Obj.cells #[Value.int .i64 a0_0, Value.int .i64 a0_1, Value.slice a0_2 n0_2 c0_2] 24)).alloc (Obj.cells #[Value.int .i64 a1_0, Value.int .i64 a1_1, Value.slice a1_2 n1_2 c1_2] 24)).cell? ⟨w.heap.size + 1, 1, none⟩ = some (.int .i64 a1_1) := by simp [go_sem]
    have k1_2 : ((w.alloc (Obj.cells #[Value.int .i64 a0_0, Value.int .i64 a0_1, Value.slice a0_2 n0_2 c0_2] 24)).alloc (Obj.cells #[Value.int .i64 a1_0, Value.int .i64 a1_1, Value.slice a1_2 n1_2 c1_2] 24)).cell? ⟨w.heap.size + 1, 2, none⟩ = some (.slice a1_2 n1_2 c1_2) := by simp [go_sem]
    refine (szSegmentC _ _ _ _ _ _ _ (by omega) (by omega) (by omega)).mono ?_
    rintro e w1 ⟨l1, hl1, rfl, m1⟩
    have M1 := M0.trans m1
    replace k0_0 := m1.cellAt k0_0
    replace k0_1 := m1.cellAt k0_1
    replace k0_2 := m1.cellAt k0_2
    replace k1_0 := m1.cellAt k1_0
    replace k1_1 := m1.cellAt k1_1
    replace k1_2 := m1.cellAt k1_2
    have z1 := m1.size
    simp only [World.size_alloc] at z1
    go_wp2_with fail
    refine (szSegmentB _ _ _ _ _ _ _ (by omega) (by omega) (by omega) m1_2).mono ?_
    rintro e w2 ⟨rfl, m2⟩
    go_wp2_with fail
    go_ret
    exact ⟨rfl, (M1.trans m2).below0⟩
  have hn1 : (n1_2 : Int) ≤ (1048576 - n0_2 : Int) := by omega
  clear hbig1
  go_enter Try.func5, Try.ntmps5
  go_wp2_with fail
  have M0 : Mk0 w ((w.alloc (Obj.cells #[Value.int .i64 a0_0, Value.int .i64 a0_1, Value.slice a0_2 n0_2 c0_2] 24)).alloc (Obj.cells #[Value.int .i64 a1_0, Value.int .i64 a1_1, Value.slice a1_2 n1_2 c1_2] 24)) := ((Mk.alloc w _).new _)
  have k0_0 : ((w.alloc (Obj.cells #[Value.int .i64 a0_0, Value.int .i64 a0_1, Value.slice a0_2 n0_2 c0_2] 24)).alloc (Obj.cells #[Value.int .i64 a1_0, Value.int .i64 a1_1, Value.slice a1_2 n1_2 c1_2] 24)).cell? ⟨w.heap.size, 0, none⟩ = some (.int .i64 a0_0) := by simp [go_sem]
  have k0_1 : ((w.alloc (Obj.cells #[Value.int .i64 a0_0, Value.int .i64 a0_1, Value.slice a0_2 n0_2 c0_2] 24)).alloc (Obj.cells #[Value.int .i64 a1_0, Value.int .i64 a1_1, Value.slice a1_2 n1_2 c1_2] 24)).cell? ⟨w.heap.size, 1, none⟩ = some (.int .i64 a0_1) := by simp [go_sem]
  have k0_2 : ((w.alloc (Obj.cells #[Value.int .i64 a0_0, Value.int .i64 a0_1, Value.slice a0_2 n0_2 c0_2] 24)).alloc (Obj.cells #[Value.int .i64 a1_0, Value.int .i64 a1_1, Value.slice a1_2 n1_2 c1_2] 24)).cell? ⟨w.heap.size, 2, none⟩ = some (.slice a0_2 n0_2 c0_2) := by simp [go_sem]
  have k1_0 : ((w.alloc (Obj.cells #[Value.int .i64 a0_0, Value.int .i64 a0_1, Value.slice a0_2 n0_2 c0_2] 24)).alloc (Obj.cells #[Value.int .i64 a1_0, Value.int .i64 a1_1, Value.slice a1_2 n1_2 c1_2] 24)).cell? ⟨w.heap.size + 1, 0, none⟩ = some (.int .i64 a1_0) := by simp [go_sem]
  have k1_1 : ((w.alloc (Obj.cells #[Value.int .i64 a0_0, Value.int .i64 a0_1, Value.slice a0_2 n0_2 c0_2] 24)).alloc (Obj.cells #[Value.int .i64 a1_0, Value.int .i64 a1_1, Value.slice a1_2 n1_2 c1_2] 24)).cell? ⟨w.heap.size + 1, 1, none⟩ = some (.int .i64 a1_1) := by simp [go_sem]
  have k1_2 : ((w.alloc (Obj.cells #[Value.int .i64 a0_0, Value.int .i64 a0_1, Value.slice a0_2 n0_2 c0_2] 24)).alloc (Obj.cells #[Value.int .i64 a1_0, Value.int .i64 a1_1, Value.slice a1_2 n1_2 c1_2] 24)).cell? ⟨w.heap.size + 1, 2, none⟩ = some (.slice a1_2 n1_2 c1_2) := by simp [go_sem]
  refine (szSegmentC _ _ _ _ _ _ _ (by omega) (by omega) (by omega)).mono ?_
  rintro e w1 ⟨l1, hl1, rfl, m1⟩
  have M1 := M0.trans m1
  replace k0_0 := m1.cellAt k0_0
  replace k0_1 := m1.cellAt k0_1
  replace k0_2 := m1.cellAt k0_2
  replace k1_0 := m1.cellAt k1_0
  replace k1_1 := m1.cellAt k1_1
  replace k1_2 := m1.cellAt k1_2
  have z1 := m1.size
  simp only [World.size_alloc] at z1
  go_wp2_with fail
  refine (szSegmentC _ _ _ _ _ _ _ (by omega) (by omega) (by omega)).mono ?_
  rintro e w2 ⟨l2, hl2, rfl, m2⟩
  have M2 := M1.trans m2
  have z2 := m2.size
  replace k0_0 := m2.cellAt k0_0
  replace k0_1 := m2.cellAt k0_1
  replace k0_2 := m2.cellAt k0_2
  replace k1_0 := m2.cellAt k1_0
  replace k1_1 := m2.cellAt k1_1
  replace k1_2 := m2.cellAt k1_2
  go_wp2_with fail
  have yr3_0 : w.heap.size < w2.heap.size := by omega
  have yr3_1 : w.heap.size + 1 < w2.heap.size := by omega
  have hN0_2 : n0_2 ≤ 1048576 := by omega
  have hN1_2 : n1_2 ≤ 1048576 := by omega
  refine wp_region_fg (fun (g : Bxs) w' => (Mk0 w2 w' ∧ w'.cell? ⟨w.heap.size, 0, none⟩ = some (.int .i64 a0_0) ∧ w'.cell? ⟨w.heap.size, 1, none⟩ = some (.int .i64 a0_1) ∧ w'.cell? ⟨w.heap.size, 2, none⟩ = some (.slice a0_2 n0_2 c0_2) ∧ w'.cell? ⟨w.heap.size + 1, 0, none⟩ = some (.int .i64 a1_0) ∧ w'.cell? ⟨w.heap.size + 1, 1, none⟩ = some (.int .i64 a1_1) ∧ w'.cell? ⟨w.heap.size + 1, 2, none⟩ = some (.slice a1_2 n1_2 c1_2)) ∧ BxS w2.heap.size g w') (fgF [fun g v w => v = .agg #[.int .i64 a0_0, .int .i64 a0_1, .slice a0_2 n0_2 c0_2], fun g v w => ∃ b0_2, v = .agg #[.int .i64 a0_0, .int .i64 a0_1, .slice (some ⟨b0_2, 0, none⟩) n0_2 n0_2] ∧ HasHop w w.heap.size (some ⟨b0_2, 0, none⟩) n0_2 z0_2, fun g v w => v = .agg #[.int .i64 a1_0, .int .i64 a1_1, .slice a1_2 n1_2 c1_2], fun g v w => ∃ b1_2, v = .agg #[.int .i64 a1_0, .int .i64 a1_1, .slice (some ⟨b1_2, 0, none⟩) n1_2 n1_2] ∧ HasHop w w.heap.size (some ⟨b1_2, 0, none⟩) n1_2 z1_2, fun g v w => ∃ A N C lo hi, v = .agg #[.slice A N C] ∧ ((A = none → C = 0) ∧ (N ≤ C ∧ C ≤ 9223372036854775807)) ∧ w2.heap.size ≤ lo ∧ lo ≤ hi ∧ hi ≤ w.heap.size ∧ OwnN WPathPart w lo hi A N (judR a0_0 a0_1 z0_2 n0_2 a1_0 a1_1 z1_2 n1_2) ∧ BxA g lo hi, fun g v w => BxZ g 5 [.slice none 0 0] v w]) BxX (fun _ _ => False) 7 6 (by kernel_rfl) (by kernel_rfl) (by decide) (by decide) (by kernel_rfl) (fun h => absurd h (by decide)) (fgM_mono ⟨fun g g' v w w' h x => h, fun g g' v w w' h x => (by obtain ⟨b0_2, h1, r0_2⟩ := h; exact ⟨_, h1, (r0_2.mk x.far (Nat.le_refl _) (.inr (Nat.le_refl _))).mono x.far.size⟩), fun g g' v w w' h x => h, fun g g' v w w' h x => (by obtain ⟨b1_2, h1, r1_2⟩ := h; exact ⟨_, h1, (r1_2.mk x.far (Nat.le_refl _) (.inr (Nat.le_refl _))).mono x.far.size⟩), fun g g' v w w' h x => (by obtain ⟨A, N, C, lo, hi, h1, h2, h3, h4, h5, h6, h7⟩ := h; exact ⟨A, N, C, lo, hi, h1, h2, h3, h4, Nat.le_trans h5 x.far.size, h6.mk x.far h5 (.inr (.inr (Nat.le_refl _))), h7.step x h5⟩), fun g g' v w w' h x => h.step x, trivial⟩) ⟨⟨Mk.drew1 _, k0_0, k0_1, k0_2, k1_0, k1_1, k1_2⟩, BxS.none_ _ _⟩ ?_
  change WkG _ _ _ _ _ _ 7 6 6 0 _
  refine WkG.value (m := 5) (k := 0) (by decide) rfl rfl (of_decide_eq_true (by rfl)) rfl (fun g w hS hF => ?_) (fun v0 => ?_)
  · obtain ⟨⟨s0, s1, s2, s3, s4, s5, s6⟩, hB⟩ := hS
    exact ⟨.agg #[.int .i64 a0_0, .int .i64 a0_1, .slice a0_2 n0_2 c0_2], w, g, (by go_simp; try with_reducible rfl), ⟨⟨s0, s1, s2, s3, s4, s5, s6⟩, hB⟩, BxX.same (Mk.refl _ _ _), rfl⟩
  try simp only [Act.put, List.getElem_toArray, List.getElem_cons_zero, List.setIfInBounds_toArray, List.set_cons_zero, List.set_cons_succ]
  refine WkG.call (m := 4) (k := 1) (by decide) rfl rfl (of_decide_eq_true (by rfl)) rfl (fun g w hS hF => ?_) (fun v1 => ?_)
  · obtain ⟨⟨s0, s1, s2, s3, s4, s5, s6⟩, hB⟩ := hS
    have f0 : v0 = .agg #[.int .i64 a0_0, .int .i64 a0_1, .slice a0_2 n0_2 c0_2] := hF 0 (by rfl)
    obtain rfl := f0
    refine ⟨_, _, (by go_simp; first | done | exact ⟨rfl, rfl⟩ | with_reducible rfl), ?_⟩
    refine (toSegmentC a0_0 a0_1 a0_2 n0_2 c0_2 z0_2 _ w (h0_2.mk (M2.trans s0) (Nat.le_refl _) (.inr (Nat.le_refl _))) (M2.trans s0).size hN0_2).mono ?_
    rintro e w' ⟨b0_2, rfl, o0, g0, mm⟩
    exact ⟨_, g, rfl, ⟨⟨s0.trans mm, mm.cellAt s1, mm.cellAt s2, mm.cellAt s3, mm.cellAt s4, mm.cellAt s5, mm.cellAt s6⟩, hB.mk0 mm⟩, BxX.same mm, ⟨_, rfl, o0.has.mono (Nat.le_refl _)⟩⟩
  try simp only [Act.put, List.getElem_toArray, List.getElem_cons_succ, List.getElem_cons_zero, List.setIfInBounds_toArray, List.set_cons_zero, List.set_cons_succ]
  refine WkG.value (m := 3) (k := 2) (by decide) rfl rfl (of_decide_eq_true (by rfl)) rfl (fun g w hS hF => ?_) (fun v2 => ?_)
  · obtain ⟨⟨s0, s1, s2, s3, s4, s5, s6⟩, hB⟩ := hS
    exact ⟨.agg #[.int .i64 a1_0, .int .i64 a1_1, .slice a1_2 n1_2 c1_2], w, g, (by go_simp; try with_reducible rfl), ⟨⟨s0, s1, s2, s3, s4, s5, s6⟩, hB⟩, BxX.same (Mk.refl _ _ _), rfl⟩
  try simp only [Act.put, List.getElem_toArray, List.getElem_cons_succ, List.getElem_cons_zero, List.setIfInBounds_toArray, List.set_cons_zero, List.set_cons_succ]
  refine WkG.call (m := 2) (k := 3) (by decide) rfl rfl (of_decide_eq_true (by rfl)) rfl (fun g w hS hF => ?_) (fun v3 => ?_)
  · obtain ⟨⟨s0, s1, s2, s3, s4, s5, s6⟩, hB⟩ := hS
    have f2 : v2 = .agg #[.int .i64 a1_0, .int .i64 a1_1, .slice a1_2 n1_2 c1_2] := hF 2 (by rfl)
    obtain rfl := f2
    refine ⟨_, _, (by go_simp; first | done | exact ⟨rfl, rfl⟩ | with_reducible rfl), ?_⟩
    refine (toSegmentC a1_0 a1_1 a1_2 n1_2 c1_2 z1_2 _ w (h1_2.mk (M2.trans s0) (Nat.le_refl _) (.inr (Nat.le_refl _))) (M2.trans s0).size hN1_2).mono ?_
    rintro e w' ⟨b1_2, rfl, o0, g0, mm⟩
    exact ⟨_, g, rfl, ⟨⟨s0.trans mm, mm.cellAt s1, mm.cellAt s2, mm.cellAt s3, mm.cellAt s4, mm.cellAt s5, mm.cellAt s6⟩, hB.mk0 mm⟩, BxX.same mm, ⟨_, rfl, o0.has.mono (Nat.le_refl _)⟩⟩
  try simp only [Act.put, List.getElem_toArray, List.getElem_cons_succ, List.getElem_cons_zero, List.setIfInBounds_toArray, List.set_cons_zero, List.set_cons_succ]
  refine WkG.call (m := 1) (k := 4) (by decide) rfl rfl (of_decide_eq_true (by rfl)) rfl (fun g w hS hF => ?_) (fun v4 => ?_)
  · obtain ⟨⟨s0, s1, s2, s3, s4, s5, s6⟩, hB⟩ := hS
    have f1 : ∃ b0_2, v1 = .agg #[.int .i64 a0_0, .int .i64 a0_1, .slice (some ⟨b0_2, 0, none⟩) n0_2 n0_2] ∧ HasHop w w.heap.size (some ⟨b0_2, 0, none⟩) n0_2 z0_2 := hF 1 (by rfl)
    obtain ⟨b0_2, rfl, r0_2⟩ := f1
    have f3 : ∃ b1_2, v3 = .agg #[.int .i64 a1_0, .int .i64 a1_1, .slice (some ⟨b1_2, 0, none⟩) n1_2 n1_2] ∧ HasHop w w.heap.size (some ⟨b1_2, 0, none⟩) n1_2 z1_2 := hF 3 (by rfl)
    obtain ⟨b1_2, rfl, r1_2⟩ := f3
    refine ⟨_, _, (by go_simp; first | done | exact ⟨rfl, rfl⟩ | with_reducible rfl), ?_⟩
    refine (specJudL a0_0 a0_1 _ n0_2 _ _ z0_2 a1_0 a1_1 _ n1_2 _ _ z1_2 w r0_2 (Nat.le_refl _) hN0_2 (fun h => by cases h) (Nat.le_refl _) r1_2 (Nat.le_refl _) hN1_2 (fun h => by cases h) (Nat.le_refl _)).mono ?_
    rintro e w' ⟨A, N, C, rfl, hc, ow, mm⟩
    exact ⟨_, g, rfl, ⟨⟨s0.trans mm, mm.cellAt s1, mm.cellAt s2, mm.cellAt s3, mm.cellAt s4, mm.cellAt s5, mm.cellAt s6⟩, hB.mk0 mm⟩, BxX.same mm, ⟨A, N, C, w.heap.size, w'.heap.size, rfl, hc, s0.size, mm.size, Nat.le_refl _, ow, BxA.of hB⟩⟩
  try simp only [Act.put, List.getElem_toArray, List.getElem_cons_succ, List.getElem_cons_zero, List.setIfInBounds_toArray, List.set_cons_zero, List.set_cons_succ]
  refine WkG.value (m := 0) (k := 5) (by decide) rfl rfl (of_decide_eq_true (by rfl)) rfl (fun g w hS hF => ?_) (fun v5 => ?_)
  · obtain ⟨⟨s0, s1, s2, s3, s4, s5, s6⟩, hB⟩ := hS
    have mm := Mk.alloc w (Obj.cells #[.slice none 0 0] 42)
    exact ⟨.pointer (some ⟨w.heap.size, 0, none⟩), (w.alloc (Obj.cells #[.slice none 0 0] 42)), bxP g 5 w.heap.size, (by go_simp; try with_reducible rfl), ⟨⟨s0.trans mm, mm.cellAt s1, mm.cellAt s2, mm.cellAt s3, mm.cellAt s4, mm.cellAt s5, mm.cellAt s6⟩, hB.put s0.size 5 (Obj.cells #[.slice none 0 0] 42)⟩, BxX.put 5 (Obj.cells #[.slice none 0 0] 42), BxZ.new g 5 [.slice none 0 0] 42 w⟩
  try simp only [Act.put, List.getElem_toArray, List.getElem_cons_succ, List.getElem_cons_zero, List.setIfInBounds_toArray, List.set_cons_zero, List.set_cons_succ]
  refine WkG.done fun gE wq3 hE hF => ?_
  clear k0_0 k0_1 k0_2 k1_0 k1_1 k1_2
  obtain ⟨⟨m3, k0_0, k0_1, k0_2, k1_0, k1_1, k1_2⟩, hBE⟩ := hE
  change wpAny _ _ _ _ 1 _ _ _
  have f4 : ∃ A N C lo hi, v4 = .agg #[.slice A N C] ∧ ((A = none → C = 0) ∧ (N ≤ C ∧ C ≤ 9223372036854775807)) ∧ w2.heap.size ≤ lo ∧ lo ≤ hi ∧ hi ≤ wq3.heap.size ∧ OwnN WPathPart wq3 lo hi A N (judR a0_0 a0_1 z0_2 n0_2 a1_0 a1_1 z1_2 n1_2) ∧ BxA gE lo hi := hF 4 (by decide)
  obtain ⟨Aw0, Nw0, Cw0, low0, hiw0, rfl, hcw0, hlw0, hmw0, hhw0, ow0, hAw0⟩ := f4
  have f5 : BxZ gE 5 [.slice none 0 0] v5 wq3 := hF 5 (by decide)
  obtain ⟨Bw0, hgw0, rfl, hltw0, hzw0, hfw0⟩ := f5
  have hsw0 := hAw0 5 Bw0 hgw0
  have hbw00 := hBE.lo 5 Bw0 hgw0
  have xw0_0 := hzw0 0 _ rfl
  clear hF
  refine wpAny_ready (rs := [6]) (by kernel_rfl) (by simp) ?_
  refine (AllReady.cons rfl (fun K hK => ?_) AllReady.nil)
  go_simp
  refine hK _ _ ?_
  clear hK K
  try simp only [Act.put, List.getElem_toArray, List.getElem_cons_succ, List.getElem_cons_zero, List.setIfInBounds_toArray, List.set_cons_zero, List.set_cons_succ]
  have yn0 : Bw0 ≠ w.heap.size := by omega
  have yn1 : Bw0 ≠ w.heap.size + 1 := by omega
  replace xw0_0 := World.cell?_setCell_same _ _ (.slice Aw0 Nw0 Cw0) xw0_0
  replace k0_0 := cell_set k0_0 ⟨Bw0, 0, none⟩ (.slice Aw0 Nw0 Cw0) (.inl yn0)
  replace k0_1 := cell_set k0_1 ⟨Bw0, 0, none⟩ (.slice Aw0 Nw0 Cw0) (.inl yn0)
  replace k0_2 := cell_set k0_2 ⟨Bw0, 0, none⟩ (.slice Aw0 Nw0 Cw0) (.inl yn0)
  replace k1_0 := cell_set k1_0 ⟨Bw0, 0, none⟩ (.slice Aw0 Nw0 Cw0) (.inl yn1)
  replace k1_1 := cell_set k1_1 ⟨Bw0, 0, none⟩ (.slice Aw0 Nw0 Cw0) (.inl yn1)
  replace k1_2 := cell_set k1_2 ⟨Bw0, 0, none⟩ (.slice Aw0 Nw0 Cw0) (.inl yn1)
  replace ow0 := ow0.set ⟨Bw0, 0, none⟩ (.slice Aw0 Nw0 Cw0) hsw0
  replace m3 := m3.put ⟨Bw0, 0, none⟩ (.slice Aw0 Nw0 Cw0) hbw00
  have zq : (wq3.setCell ⟨Bw0, 0, none⟩ (.slice Aw0 Nw0 Cw0)).heap.size = wq3.heap.size := by simp only [World.size_set]
  clear hzw0 hfw0 hAw0 hgw0 hBE
  generalize (wq3.setCell ⟨Bw0, 0, none⟩ (.slice Aw0 Nw0 Cw0)) = w3 at *
  rw [← zq] at hhw0 hltw0
  clear zq
  clear yn0 yn1
  refine wpAny_doneN (by kernel_rfl) ?_
  refine ‹∀ (a : Act) (w : World), _ → _› _ _ ?_
  clear hN0_2 hN1_2 yr3_0 yr3_1
  have hbw0 : szPathPart (judR a0_0 a0_1 z0_2 n0_2 a1_0 a1_1 z1_2 n1_2) Nw0 ≤ 1572864 := jud_sz h0_2.1 h1_2.1 ow0.1 (by omega)
  have hbw0n : Nw0 ≤ 1572864 := Nat.le_trans (szPathPart_n _ _) hbw0
  have hbw0t : sumTo totPathPart (judR a0_0 a0_1 z0_2 n0_2 a1_0 a1_1 z1_2 n1_2) Nw0 ≤ 8388608 := by have := totPathPart_sz (judR a0_0 a0_1 z0_2 n0_2 a1_0 a1_1 z1_2 n1_2) Nw0; omega
  have M3 := M2.trans m3
  have z3 := m3.size
  go_wp2_with fail
  refine (toSegmentC _ _ _ _ _ _ w.heap.size _ (h0_2.mk M3 (Nat.le_refl _) (.inr (Nat.le_refl _))) (by omega) (by omega)).mono ?_
  rintro e w4 ⟨b1, rfl, o2, g3, m4⟩
  have M4 := M3.trans m4
  have z4 := m4.size
  replace k0_0 := m4.cellAt k0_0
  replace k0_1 := m4.cellAt k0_1
  replace k0_2 := m4.cellAt k0_2
  replace k1_0 := m4.cellAt k1_0
  replace k1_1 := m4.cellAt k1_1
  replace k1_2 := m4.cellAt k1_2
  replace xw0_0 := m4.cellAt xw0_0
  replace ow0 := ow0.mk m4 (by omega) (.inr (.inr (Nat.le_refl _)))
  have h4 := o2.has.mono (B' := w4.heap.size) (by omega)
  have yb5 : w.heap.size < w4.heap.size := by omega
  have yb6 : w.heap.size + 1 < w4.heap.size := by omega
  have yb7 : Bw0 < w4.heap.size := by omega
  go_wp2_with fail
  have xx0_0 : (w4.alloc (Obj.cells #[Value.int .i64 a0_0, Value.int .i64 a0_1, Value.slice (some ⟨b1, 0, none⟩) n0_2 n0_2] 28)).cell? ⟨w4.heap.size, 0, none⟩ = some (.int .i64 a0_0) := by rw [World.cell?_alloc_at _ _ _ _ rfl]; rfl
  have xx0_1 : (w4.alloc (Obj.cells #[Value.int .i64 a0_0, Value.int .i64 a0_1, Value.slice (some ⟨b1, 0, none⟩) n0_2 n0_2] 28)).cell? ⟨w4.heap.size, 1, none⟩ = some (.int .i64 a0_1) := by rw [World.cell?_alloc_at _ _ _ _ rfl]; rfl
  have xx0_2 : (w4.alloc (Obj.cells #[Value.int .i64 a0_0, Value.int .i64 a0_1, Value.slice (some ⟨b1, 0, none⟩) n0_2 n0_2] 28)).cell? ⟨w4.heap.size, 2, none⟩ = some (.slice (some ⟨b1, 0, none⟩) n0_2 n0_2) := by rw [World.cell?_alloc_at _ _ _ _ rfl]; rfl
  have m5 := Mk.alloc w4 (Obj.cells #[Value.int .i64 a0_0, Value.int .i64 a0_1, Value.slice (some ⟨b1, 0, none⟩) n0_2 n0_2] 28)
  replace k0_0 := m5.cellAt k0_0
  replace k0_1 := m5.cellAt k0_1
  replace k0_2 := m5.cellAt k0_2
  replace k1_0 := m5.cellAt k1_0
  replace k1_1 := m5.cellAt k1_1
  replace k1_2 := m5.cellAt k1_2
  replace xw0_0 := m5.cellAt xw0_0
  replace h4 := h4.mk m5 (by omega) (.inr (Nat.le_refl _))
  replace o2 := o2.mk m5 (by omega) (.inr (.inr (Nat.le_refl _)))
  replace ow0 := ow0.mk m5 (by omega) (.inr (.inr (Nat.le_refl _)))
  have M5 := M4.trans m5
  have z5 := m5.size
  have zz5 : w4.heap.size < (w4.alloc (Obj.cells #[Value.int .i64 a0_0, Value.int .i64 a0_1, Value.slice (some ⟨b1, 0, none⟩) n0_2 n0_2] 28)).heap.size := by rw [World.size_alloc]; omega
  generalize (w4.alloc (Obj.cells #[Value.int .i64 a0_0, Value.int .i64 a0_1, Value.slice (some ⟨b1, 0, none⟩) n0_2 n0_2] 28)) = w5 at *
  refine (toSegmentC _ _ _ _ _ _ w.heap.size _ (h1_2.mk M5 (Nat.le_refl _) (.inr (Nat.le_refl _))) (by omega) (by omega)).mono ?_
  rintro e w6 ⟨b8, rfl, o9, g10, m6⟩
  have M6 := M5.trans m6
  have z6 := m6.size
  replace k0_0 := m6.cellAt k0_0
  replace k0_1 := m6.cellAt k0_1
  replace k0_2 := m6.cellAt k0_2
  replace k1_0 := m6.cellAt k1_0
  replace k1_1 := m6.cellAt k1_1
  replace k1_2 := m6.cellAt k1_2
  replace xw0_0 := m6.cellAt xw0_0
  replace xx0_0 := m6.cellAt xx0_0
  replace xx0_1 := m6.cellAt xx0_1
  replace xx0_2 := m6.cellAt xx0_2
  replace h4 := h4.mk m6 (by omega) (.inr (Nat.le_refl _))
  replace o2 := o2.mk m6 (by omega) (.inr (.inr (Nat.le_refl _)))
  replace ow0 := ow0.mk m6 (by omega) (.inr (.inr (Nat.le_refl _)))
  have h11 := o9.has.mono (B' := w6.heap.size) (by omega)
  have yb12 : w.heap.size < w6.heap.size := by omega
  have yb13 : w.heap.size + 1 < w6.heap.size := by omega
  have yb14 : Bw0 < w6.heap.size := by omega
  have yb15 : w4.heap.size < w6.heap.size := by omega
  go_wp2_with fail
  have xx1_0 : (w6.alloc (Obj.cells #[Value.int .i64 a1_0, Value.int .i64 a1_1, Value.slice (some ⟨b8, 0, none⟩) n1_2 n1_2] 28)).cell? ⟨w6.heap.size, 0, none⟩ = some (.int .i64 a1_0) := by rw [World.cell?_alloc_at _ _ _ _ rfl]; rfl
  have xx1_1 : (w6.alloc (Obj.cells #[Value.int .i64 a1_0, Value.int .i64 a1_1, Value.slice (some ⟨b8, 0, none⟩) n1_2 n1_2] 28)).cell? ⟨w6.heap.size, 1, none⟩ = some (.int .i64 a1_1) := by rw [World.cell?_alloc_at _ _ _ _ rfl]; rfl
  have xx1_2 : (w6.alloc (Obj.cells #[Value.int .i64 a1_0, Value.int .i64 a1_1, Value.slice (some ⟨b8, 0, none⟩) n1_2 n1_2] 28)).cell? ⟨w6.heap.size, 2, none⟩ = some (.slice (some ⟨b8, 0, none⟩) n1_2 n1_2) := by rw [World.cell?_alloc_at _ _ _ _ rfl]; rfl
  have m7 := Mk.alloc w6 (Obj.cells #[Value.int .i64 a1_0, Value.int .i64 a1_1, Value.slice (some ⟨b8, 0, none⟩) n1_2 n1_2] 28)
  replace k0_0 := m7.cellAt k0_0
  replace k0_1 := m7.cellAt k0_1
  replace k0_2 := m7.cellAt k0_2
  replace k1_0 := m7.cellAt k1_0
  replace k1_1 := m7.cellAt k1_1
  replace k1_2 := m7.cellAt k1_2
  replace xw0_0 := m7.cellAt xw0_0
  replace xx0_0 := m7.cellAt xx0_0
  replace xx0_1 := m7.cellAt xx0_1
  replace xx0_2 := m7.cellAt xx0_2
  replace h4 := h4.mk m7 (by omega) (.inr (Nat.le_refl _))
  replace h11 := h11.mk m7 (by omega) (.inr (Nat.le_refl _))
  replace o2 := o2.mk m7 (by omega) (.inr (.inr (Nat.le_refl _)))
  replace o9 := o9.mk m7 (by omega) (.inr (.inr (Nat.le_refl _)))
  replace ow0 := ow0.mk m7 (by omega) (.inr (.inr (Nat.le_refl _)))
  have M7 := M6.trans m7
  have z7 := m7.size
  have zz7 : w6.heap.size < (w6.alloc (Obj.cells #[Value.int .i64 a1_0, Value.int .i64 a1_1, Value.slice (some ⟨b8, 0, none⟩) n1_2 n1_2] 28)).heap.size := by rw [World.size_alloc]; omega
  generalize (w6.alloc (Obj.cells #[Value.int .i64 a1_0, Value.int .i64 a1_1, Value.slice (some ⟨b8, 0, none⟩) n1_2 n1_2] 28)) = w7 at *
  have hN0_2 : n0_2 ≤ 1048576 := by omega
  have hN1_2 : n1_2 ≤ 1048576 := by omega
  refine (implJudL a0_0 a0_1 _ n0_2 _ _ z0_2 a1_0 a1_1 _ n1_2 _ _ z1_2 _ h4 (by omega) hN0_2 (fun h => by cases h) (Nat.le_refl _) h11 (by omega) hN1_2 (fun h => by cases h) (Nat.le_refl _)).mono ?_
  rintro e w8 ⟨A8, N8, C8, rfl, hc8, og0, m8⟩
  clear hc8
  obtain rfl : Nw0 = N8 := ow0.1.symm.trans og0.1
  have M8 := M7.trans m8
  have z8 := m8.size
  replace k0_0 := m8.cellAt k0_0
  replace k0_1 := m8.cellAt k0_1
  replace k0_2 := m8.cellAt k0_2
  replace k1_0 := m8.cellAt k1_0
  replace k1_1 := m8.cellAt k1_1
  replace k1_2 := m8.cellAt k1_2
  replace xw0_0 := m8.cellAt xw0_0
  replace xx0_0 := m8.cellAt xx0_0
  replace xx0_1 := m8.cellAt xx0_1
  replace xx0_2 := m8.cellAt xx0_2
  replace xx1_0 := m8.cellAt xx1_0
  replace xx1_1 := m8.cellAt xx1_1
  replace xx1_2 := m8.cellAt xx1_2
  replace h4 := h4.mk m8 (by omega) (.inr (Nat.le_refl _))
  replace h11 := h11.mk m8 (by omega) (.inr (Nat.le_refl _))
  replace o2 := o2.mk m8 (by omega) (.inr (.inr (Nat.le_refl _)))
  replace o9 := o9.mk m8 (by omega) (.inr (.inr (Nat.le_refl _)))
  replace ow0 := ow0.mk m8 (by omega) (.inr (.inr (Nat.le_refl _)))
  have yb16 : w.heap.size < w8.heap.size := by omega
  have yb17 : w.heap.size + 1 < w8.heap.size := by omega
  have yb18 : Bw0 < w8.heap.size := by omega
  have yb19 : w4.heap.size < w8.heap.size := by omega
  have yb20 : w6.heap.size < w8.heap.size := by omega
  go_wp2_with fail
  have xg0_0 : (w8.alloc (Obj.cells #[Value.slice A8 Nw0 C8] 42)).cell? ⟨w8.heap.size, 0, none⟩ = some (.slice A8 Nw0 C8) := by rw [World.cell?_alloc_at _ _ _ _ rfl]; rfl
  have m9 := Mk.alloc w8 (Obj.cells #[Value.slice A8 Nw0 C8] 42)
  replace k0_0 := m9.cellAt k0_0
  replace k0_1 := m9.cellAt k0_1
  replace k0_2 := m9.cellAt k0_2
  replace k1_0 := m9.cellAt k1_0
  replace k1_1 := m9.cellAt k1_1
  replace k1_2 := m9.cellAt k1_2
  replace xw0_0 := m9.cellAt xw0_0
  replace xx0_0 := m9.cellAt xx0_0
  replace xx0_1 := m9.cellAt xx0_1
  replace xx0_2 := m9.cellAt xx0_2
  replace xx1_0 := m9.cellAt xx1_0
  replace xx1_1 := m9.cellAt xx1_1
  replace xx1_2 := m9.cellAt xx1_2
  replace h4 := h4.mk m9 (by omega) (.inr (Nat.le_refl _))
  replace h11 := h11.mk m9 (by omega) (.inr (Nat.le_refl _))
  replace o2 := o2.mk m9 (by omega) (.inr (.inr (Nat.le_refl _)))
  replace o9 := o9.mk m9 (by omega) (.inr (.inr (Nat.le_refl _)))
  replace ow0 := ow0.mk m9 (by omega) (.inr (.inr (Nat.le_refl _)))
  replace og0 := og0.mk m9 (by omega) (.inr (.inr (Nat.le_refl _)))
  have M9 := M8.trans m9
  have z9 := m9.size
  have zz9 : w8.heap.size < (w8.alloc (Obj.cells #[Value.slice A8 Nw0 C8] 42)).heap.size := by rw [World.size_alloc]; omega
  generalize (w8.alloc (Obj.cells #[Value.slice A8 Nw0 C8] 42)) = w9 at *
  clear hN0_2 hN1_2
  refine (eqPathCB _ _ _ _ _ _ _ _ _ og0.hasPathPart ow0.hasPathPart (by omega) (by omega) hbw0).mono ?_
  rintro e w10 ⟨rfl, m10⟩
  have M10 := M9.trans m10
  have z10 := m10.size
  replace k0_0 := m10.cellAt k0_0
  replace k0_1 := m10.cellAt k0_1
  replace k0_2 := m10.cellAt k0_2
  replace k1_0 := m10.cellAt k1_0
  replace k1_1 := m10.cellAt k1_1
  replace k1_2 := m10.cellAt k1_2
  replace xw0_0 := m10.cellAt xw0_0
  replace xx0_0 := m10.cellAt xx0_0
  replace xx0_1 := m10.cellAt xx0_1
  replace xx0_2 := m10.cellAt xx0_2
  replace xx1_0 := m10.cellAt xx1_0
  replace xx1_1 := m10.cellAt xx1_1
  replace xx1_2 := m10.cellAt xx1_2
  replace xg0_0 := m10.cellAt xg0_0
  replace h4 := h4.mk m10 (by omega) (.inr (Nat.le_refl _))
  replace h11 := h11.mk m10 (by omega) (.inr (Nat.le_refl _))
  replace o2 := o2.mk m10 (by omega) (.inr (.inr (Nat.le_refl _)))
  replace o9 := o9.mk m10 (by omega) (.inr (.inr (Nat.le_refl _)))
  replace ow0 := ow0.mk m10 (by omega) (.inr (.inr (Nat.le_refl _)))
  replace og0 := og0.mk m10 (by omega) (.inr (.inr (Nat.le_refl _)))
  go_wp2_with fail
  have e21 : ∀ w', Mk0 w10 w' → HasHop w' w4.heap.size (some ⟨b1, 0, none⟩) n0_2 z0_2 := fun w' m => h4.mk m (by omega) (.inr (Nat.le_refl _))
  have e22 : ∀ w', Mk0 w10 w' → w4.heap.size ≤ w'.heap.size := fun w' m => Nat.le_trans (by omega) m.size
  have e23 : ∀ w', Mk0 w10 w' → HasHop w' w.heap.size a0_2 n0_2 z0_2 := fun w' m => h0_2.mk (M10.trans m) (Nat.le_refl _) (.inr (Nat.le_refl _))
  have hN0_2 : n0_2 ≤ 1048576 := by omega
  go_region_held3 (fun w' => Mk0 w10 w' ∧ w'.cell? ⟨w.heap.size, 0, none⟩ = some (.int .i64 a0_0) ∧ w'.cell? ⟨w.heap.size, 1, none⟩ = some (.int .i64 a0_1) ∧ w'.cell? ⟨w.heap.size, 2, none⟩ = some (.slice a0_2 n0_2 c0_2) ∧ w'.cell? ⟨w.heap.size + 1, 0, none⟩ = some (.int .i64 a1_0) ∧ w'.cell? ⟨w.heap.size + 1, 1, none⟩ = some (.int .i64 a1_1) ∧ w'.cell? ⟨w.heap.size + 1, 2, none⟩ = some (.slice a1_2 n1_2 c1_2) ∧ w'.cell? ⟨Bw0, 0, none⟩ = some (.slice Aw0 Nw0 Cw0) ∧ w'.cell? ⟨w4.heap.size, 0, none⟩ = some (.int .i64 a0_0) ∧ w'.cell? ⟨w4.heap.size, 1, none⟩ = some (.int .i64 a0_1) ∧ w'.cell? ⟨w4.heap.size, 2, none⟩ = some (.slice (some ⟨b1, 0, none⟩) n0_2 n0_2) ∧ w'.cell? ⟨w6.heap.size, 0, none⟩ = some (.int .i64 a1_0) ∧ w'.cell? ⟨w6.heap.size, 1, none⟩ = some (.int .i64 a1_1) ∧ w'.cell? ⟨w6.heap.size, 2, none⟩ = some (.slice (some ⟨b8, 0, none⟩) n1_2 n1_2) ∧ w'.cell? ⟨w8.heap.size, 0, none⟩ = some (.slice A8 Nw0 C8)) (first | exact ⟨Mk.drew1 _, k0_0, k0_1, k0_2, k1_0, k1_1, k1_2, xw0_0, xx0_0, xx0_1, xx0_2, xx1_0, xx1_1, xx1_2, xg0_0⟩ | (obtain ⟨s0, s1, s2, s3, s4, s5, s6, s7, s8, s9, s10, s11, s12, s13, s14⟩ := ‹Mk0 w10 _ ∧ _›; exact ⟨s0.trans mm, mm.cellAt s1, mm.cellAt s2, mm.cellAt s3, mm.cellAt s4, mm.cellAt s5, mm.cellAt s6, mm.cellAt s7, mm.cellAt s8, mm.cellAt s9, mm.cellAt s10, mm.cellAt s11, mm.cellAt s12, mm.cellAt s13, mm.cellAt s14⟩)) (first | (go_at_call 11; refine (toSegmentC _ _ _ _ _ _ w.heap.size _ (e23 _ (‹Mk0 w10 _ ∧ _›).1) (M10.trans (‹Mk0 w10 _ ∧ _›).1).size hN0_2).mono ?_; rintro e wa ⟨bb0, rfl, oo0, gg0, mm⟩) | (go_at_call 13; refine (eqSegmentC _ _ _ _ _ _ _ _ _ _ _ (e21 _ (‹Mk0 w10 _ ∧ _›).1) (oo0.has.mono (Nat.le_refl _)) (e22 _ (‹Mk0 w10 _ ∧ _›).1) (Nat.le_refl _) hN0_2).mono ?_; rintro e wb11 ⟨rfl, mm⟩))
  obtain ⟨m11, k0_0, k0_1, k0_2, k1_0, k1_1, k1_2, xw0_0, xx0_0, xx0_1, xx0_2, xx1_0, xx1_1, xx1_2, xg0_0⟩ := ‹Mk0 w10 _ ∧ _›
  clear e21 e22 e23 hN0_2
  refine ‹∀ (a : Act) (w : World), _ → _› _ _ ?_
  have M11 := M10.trans m11
  have z11 := m11.size
  replace h4 := h4.mk m11 (by omega) (.inr (Nat.le_refl _))
  replace h11 := h11.mk m11 (by omega) (.inr (Nat.le_refl _))
  replace o2 := o2.mk m11 (by omega) (.inr (.inr (Nat.le_refl _)))
  replace o9 := o9.mk m11 (by omega) (.inr (.inr (Nat.le_refl _)))
  replace ow0 := ow0.mk m11 (by omega) (.inr (.inr (Nat.le_refl _)))
  replace og0 := og0.mk m11 (by omega) (.inr (.inr (Nat.le_refl _)))
  go_wp2_with fail
  have e24 : ∀ w', Mk0 wb11 w' → HasHop w' w6.heap.size (some ⟨b8, 0, none⟩) n1_2 z1_2 := fun w' m => h11.mk m (by omega) (.inr (Nat.le_refl _))
  have e25 : ∀ w', Mk0 wb11 w' → w6.heap.size ≤ w'.heap.size := fun w' m => Nat.le_trans (by omega) m.size
  have e26 : ∀ w', Mk0 wb11 w' → HasHop w' w.heap.size a1_2 n1_2 z1_2 := fun w' m => h1_2.mk (M11.trans m) (Nat.le_refl _) (.inr (Nat.le_refl _))
  have hN1_2 : n1_2 ≤ 1048576 := by omega
  go_region_held3 (fun w' => Mk0 wb11 w' ∧ w'.cell? ⟨w.heap.size, 0, none⟩ = some (.int .i64 a0_0) ∧ w'.cell? ⟨w.heap.size, 1, none⟩ = some (.int .i64 a0_1) ∧ w'.cell? ⟨w.heap.size, 2, none⟩ = some (.slice a0_2 n0_2 c0_2) ∧ w'.cell? ⟨w.heap.size + 1, 0, none⟩ = some (.int .i64 a1_0) ∧ w'.cell? ⟨w.heap.size + 1, 1, none⟩ = some (.int .i64 a1_1) ∧ w'.cell? ⟨w.heap.size + 1, 2, none⟩ = some (.slice a1_2 n1_2 c1_2) ∧ w'.cell? ⟨Bw0, 0, none⟩ = some (.slice Aw0 Nw0 Cw0) ∧ w'.cell? ⟨w4.heap.size, 0, none⟩ = some (.int .i64 a0_0) ∧ w'.cell? ⟨w4.heap.size, 1, none⟩ = some (.int .i64 a0_1) ∧ w'.cell? ⟨w4.heap.size, 2, none⟩ = some (.slice (some ⟨b1, 0, none⟩) n0_2 n0_2) ∧ w'.cell? ⟨w6.heap.size, 0, none⟩ = some (.int .i64 a1_0) ∧ w'.cell? ⟨w6.heap.size, 1, none⟩ = some (.int .i64 a1_1) ∧ w'.cell? ⟨w6.heap.size, 2, none⟩ = some (.slice (some ⟨b8, 0, none⟩) n1_2 n1_2) ∧ w'.cell? ⟨w8.heap.size, 0, none⟩ = some (.slice A8 Nw0 C8)) (first | exact ⟨Mk.drew1 _, k0_0, k0_1, k0_2, k1_0, k1_1, k1_2, xw0_0, xx0_0, xx0_1, xx0_2, xx1_0, xx1_1, xx1_2, xg0_0⟩ | (obtain ⟨s0, s1, s2, s3, s4, s5, s6, s7, s8, s9, s10, s11, s12, s13, s14⟩ := ‹Mk0 wb11 _ ∧ _›; exact ⟨s0.trans mm, mm.cellAt s1, mm.cellAt s2, mm.cellAt s3, mm.cellAt s4, mm.cellAt s5, mm.cellAt s6, mm.cellAt s7, mm.cellAt s8, mm.cellAt s9, mm.cellAt s10, mm.cellAt s11, mm.cellAt s12, mm.cellAt s13, mm.cellAt s14⟩)) (first | (go_at_call 11; refine (toSegmentC _ _ _ _ _ _ w.heap.size _ (e26 _ (‹Mk0 wb11 _ ∧ _›).1) (M11.trans (‹Mk0 wb11 _ ∧ _›).1).size hN1_2).mono ?_; rintro e wa ⟨bb0, rfl, oo0, gg0, mm⟩) | (go_at_call 13; refine (eqSegmentC _ _ _ _ _ _ _ _ _ _ _ (e24 _ (‹Mk0 wb11 _ ∧ _›).1) (oo0.has.mono (Nat.le_refl _)) (e25 _ (‹Mk0 wb11 _ ∧ _›).1) (Nat.le_refl _) hN1_2).mono ?_; rintro e wb12 ⟨rfl, mm⟩))
  obtain ⟨m12, k0_0, k0_1, k0_2, k1_0, k1_1, k1_2, xw0_0, xx0_0, xx0_1, xx0_2, xx1_0, xx1_1, xx1_2, xg0_0⟩ := ‹Mk0 wb11 _ ∧ _›
  clear e24 e25 e26 hN1_2
  refine ‹∀ (a : Act) (w : World), _ → _› _ _ ?_
  have M12 := M11.trans m12
  have z12 := m12.size
  replace h4 := h4.mk m12 (by omega) (.inr (Nat.le_refl _))
  replace h11 := h11.mk m12 (by omega) (.inr (Nat.le_refl _))
  replace o2 := o2.mk m12 (by omega) (.inr (.inr (Nat.le_refl _)))
  replace o9 := o9.mk m12 (by omega) (.inr (.inr (Nat.le_refl _)))
  replace ow0 := ow0.mk m12 (by omega) (.inr (.inr (Nat.le_refl _)))
  replace og0 := og0.mk m12 (by omega) (.inr (.inr (Nat.le_refl _)))
  go_wp2_with fail
  clear h4
  clear h11
  refine (markSegmentC _ _ _ _ _ _ w3.heap.size w4.heap.size _ _ o2 (by omega) (by omega) (by omega) (by omega) (by omega)).mono ?_
  rintro e w13 ⟨l13, hl13, rfl, m13⟩
  have M13 := M12.andR m13 (.inl (by omega))
  have z13 := m13.size
  replace k0_0 := m13.cellAtR k0_0 (by omega)
  replace k0_1 := m13.cellAtR k0_1 (by omega)
  replace k0_2 := m13.cellAtR k0_2 (by omega)
  replace k1_0 := m13.cellAtR k1_0 (by omega)
  replace k1_1 := m13.cellAtR k1_1 (by omega)
  replace k1_2 := m13.cellAtR k1_2 (by omega)
  replace xw0_0 := m13.cellAtR xw0_0 (by omega)
  replace xx0_0 := m13.cellAtR xx0_0 (by omega)
  replace xx0_1 := m13.cellAtR xx0_1 (by omega)
  replace xx0_2 := m13.cellAtR xx0_2 (by omega)
  replace xx1_0 := m13.cellAtR xx1_0 (by omega)
  replace xx1_1 := m13.cellAtR xx1_1 (by omega)
  replace xx1_2 := m13.cellAtR xx1_2 (by omega)
  replace xg0_0 := m13.cellAtR xg0_0 (by omega)
  replace o9 := o9.mk m13 (by omega) (by omega)
  replace ow0 := ow0.mk m13 (by omega) (by omega)
  replace og0 := og0.mk m13 (by omega) (by omega)
  go_wp2_with fail
  refine (markSegmentC _ _ _ _ _ _ w5.heap.size w6.heap.size _ _ o9 (by omega) (by omega) (by omega) (by omega) (by omega)).mono ?_
  rintro e w14 ⟨l14, hl14, rfl, m14⟩
  have M14 := M13.andR m14 (.inl (by omega))
  have z14 := m14.size
  replace k0_0 := m14.cellAtR k0_0 (by omega)
  replace k0_1 := m14.cellAtR k0_1 (by omega)
  replace k0_2 := m14.cellAtR k0_2 (by omega)
  replace k1_0 := m14.cellAtR k1_0 (by omega)
  replace k1_1 := m14.cellAtR k1_1 (by omega)
  replace k1_2 := m14.cellAtR k1_2 (by omega)
  replace xw0_0 := m14.cellAtR xw0_0 (by omega)
  replace xx0_0 := m14.cellAtR xx0_0 (by omega)
  replace xx0_1 := m14.cellAtR xx0_1 (by omega)
  replace xx0_2 := m14.cellAtR xx0_2 (by omega)
  replace xx1_0 := m14.cellAtR xx1_0 (by omega)
  replace xx1_1 := m14.cellAtR xx1_1 (by omega)
  replace xx1_2 := m14.cellAtR xx1_2 (by omega)
  replace xg0_0 := m14.cellAtR xg0_0 (by omega)
  replace ow0 := ow0.mk m14 (by omega) (by omega)
  replace og0 := og0.mk m14 (by omega) (by omega)
  go_wp2_with fail
  refine (eqPathCB _ _ _ _ _ _ _ _ _ og0.hasPathPart ow0.hasPathPart (by omega) (by omega) hbw0).mono ?_
  rintro e w15 ⟨rfl, m15⟩
  have M15 := M14.trans m15
  have z15 := m15.size
  replace k0_0 := m15.cellAt k0_0
  replace k0_1 := m15.cellAt k0_1
  replace k0_2 := m15.cellAt k0_2
  replace k1_0 := m15.cellAt k1_0
  replace k1_1 := m15.cellAt k1_1
  replace k1_2 := m15.cellAt k1_2
  replace xw0_0 := m15.cellAt xw0_0
  replace xx0_0 := m15.cellAt xx0_0
  replace xx0_1 := m15.cellAt xx0_1
  replace xx0_2 := m15.cellAt xx0_2
  replace xx1_0 := m15.cellAt xx1_0
  replace xx1_1 := m15.cellAt xx1_1
  replace xx1_2 := m15.cellAt xx1_2
  replace xg0_0 := m15.cellAt xg0_0
  replace ow0 := ow0.mk m15 (by omega) (.inr (.inr (Nat.le_refl _)))
  replace og0 := og0.mk m15 (by omega) (.inr (.inr (Nat.le_refl _)))
  go_wp2_with fail
  refine (markPathN _ _ _ w7.heap.size w8.heap.size _ _ _ og0 (by omega) (by omega) hbw0t (by omega) (by omega)).mono ?_
  rintro e w16 ⟨rfl, oo16, m16⟩
  replace og0 := oo16
  clear oo16
  have M16 := M15.andR m16 (.inl (by omega))
  have z16 := m16.size
  replace k0_0 := m16.cellAtR k0_0 (by omega)
  replace k0_1 := m16.cellAtR k0_1 (by omega)
  replace k0_2 := m16.cellAtR k0_2 (by omega)
  replace k1_0 := m16.cellAtR k1_0 (by omega)
  replace k1_1 := m16.cellAtR k1_1 (by omega)
  replace k1_2 := m16.cellAtR k1_2 (by omega)
  replace xw0_0 := m16.cellAtR xw0_0 (by omega)
  replace xx0_0 := m16.cellAtR xx0_0 (by omega)
  replace xx0_1 := m16.cellAtR xx0_1 (by omega)
  replace xx0_2 := m16.cellAtR xx0_2 (by omega)
  replace xx1_0 := m16.cellAtR xx1_0 (by omega)
  replace xx1_1 := m16.cellAtR xx1_1 (by omega)
  replace xx1_2 := m16.cellAtR xx1_2 (by omega)
  replace xg0_0 := m16.cellAtR xg0_0 (by omega)
  replace ow0 := ow0.mk m16 (by omega) (by omega)
  go_wp2_with fail
  refine (heldPathN _ _ _ _ _ (judR a0_0 a0_1 z0_2 n0_2 a1_0 a1_1 z1_2 n1_2) _ og0.hasPathPart (by omega) (by omega) hbw0t (by omega) (by omega)).mono ?_
  rintro e w17 ⟨rfl, m17⟩
  have M17 := M16.trans m17
  have z17 := m17.size
  replace k0_0 := m17.cellAt k0_0
  replace k0_1 := m17.cellAt k0_1
  replace k0_2 := m17.cellAt k0_2
  replace k1_0 := m17.cellAt k1_0
  replace k1_1 := m17.cellAt k1_1
  replace k1_2 := m17.cellAt k1_2
  replace xw0_0 := m17.cellAt xw0_0
  replace xx0_0 := m17.cellAt xx0_0
  replace xx0_1 := m17.cellAt xx0_1
  replace xx0_2 := m17.cellAt xx0_2
  replace xx1_0 := m17.cellAt xx1_0
  replace xx1_1 := m17.cellAt xx1_1
  replace xx1_2 := m17.cellAt xx1_2
  replace xg0_0 := m17.cellAt xg0_0
  replace ow0 := ow0.mk m17 (by omega) (.inr (.inr (Nat.le_refl _)))
  replace og0 := og0.mk m17 (by omega) (.inr (.inr (Nat.le_refl _)))
  go_wp2_with fail
  have yr18_0 : w.heap.size < w17.heap.size := by omega
  have yr18_1 : w.heap.size + 1 < w17.heap.size := by omega
  have yr18_2 : Bw0 < w17.heap.size := by omega
  have yr18_3 : w4.heap.size < w17.heap.size := by omega
  have yr18_4 : w6.heap.size < w17.heap.size := by omega
  have yr18_5 : w8.heap.size < w17.heap.size := by omega
  have hN0_2 : n0_2 ≤ 1048576 := by omega
  have hN1_2 : n1_2 ≤ 1048576 := by omega
  refine wp_region_fg (fun (g : Bxs) w' => (Mk0 w17 w' ∧ w'.cell? ⟨w.heap.size, 0, none⟩ = some (.int .i64 a0_0) ∧ w'.cell? ⟨w.heap.size, 1, none⟩ = some (.int .i64 a0_1) ∧ w'.cell? ⟨w.heap.size, 2, none⟩ = some (.slice a0_2 n0_2 c0_2) ∧ w'.cell? ⟨w.heap.size + 1, 0, none⟩ = some (.int .i64 a1_0) ∧ w'.cell? ⟨w.heap.size + 1, 1, none⟩ = some (.int .i64 a1_1) ∧ w'.cell? ⟨w.heap.size + 1, 2, none⟩ = some (.slice a1_2 n1_2 c1_2) ∧ w'.cell? ⟨Bw0, 0, none⟩ = some (.slice Aw0 Nw0 Cw0) ∧ w'.cell? ⟨w4.heap.size, 0, none⟩ = some (.int .i64 a0_0) ∧ w'.cell? ⟨w4.heap.size, 1, none⟩ = some (.int .i64 a0_1) ∧ w'.cell? ⟨w4.heap.size, 2, none⟩ = some (.slice (some ⟨b1, 0, none⟩) n0_2 n0_2) ∧ w'.cell? ⟨w6.heap.size, 0, none⟩ = some (.int .i64 a1_0) ∧ w'.cell? ⟨w6.heap.size, 1, none⟩ = some (.int .i64 a1_1) ∧ w'.cell? ⟨w6.heap.size, 2, none⟩ = some (.slice (some ⟨b8, 0, none⟩) n1_2 n1_2) ∧ w'.cell? ⟨w8.heap.size, 0, none⟩ = some (.slice A8 Nw0 C8)) ∧ BxS w17.heap.size g w') (fgF [fun g v w => v = .agg #[.int .i64 a0_0, .int .i64 a0_1, .slice a0_2 n0_2 c0_2], fun g v w => ∃ b0_2, v = .agg #[.int .i64 a0_0, .int .i64 a0_1, .slice (some ⟨b0_2, 0, none⟩) n0_2 n0_2] ∧ HasHop w w.heap.size (some ⟨b0_2, 0, none⟩) n0_2 z0_2, fun g v w => v = .agg #[.int .i64 a1_0, .int .i64 a1_1, .slice a1_2 n1_2 c1_2], fun g v w => ∃ b1_2, v = .agg #[.int .i64 a1_0, .int .i64 a1_1, .slice (some ⟨b1_2, 0, none⟩) n1_2 n1_2] ∧ HasHop w w.heap.size (some ⟨b1_2, 0, none⟩) n1_2 z1_2, fun g v w => ∃ A N C lo hi, v = .agg #[.slice A N C] ∧ ((A = none → C = 0) ∧ (N ≤ C ∧ C ≤ 9223372036854775807)) ∧ w17.heap.size ≤ lo ∧ lo ≤ hi ∧ hi ≤ w.heap.size ∧ OwnN WPathPart w lo hi A N (judR a0_0 a0_1 z0_2 n0_2 a1_0 a1_1 z1_2 n1_2) ∧ BxA g lo hi, fun g v w => BxZ g 5 [.slice none 0 0] v w]) BxX (fun _ _ => False) 7 6 (by kernel_rfl) (by kernel_rfl) (by decide) (by decide) (by kernel_rfl) (fun h => absurd h (by decide)) (fgM_mono ⟨fun g g' v w w' h x => h, fun g g' v w w' h x => (by obtain ⟨b0_2, h1, r0_2⟩ := h; exact ⟨_, h1, (r0_2.mk x.far (Nat.le_refl _) (.inr (Nat.le_refl _))).mono x.far.size⟩), fun g g' v w w' h x => h, fun g g' v w w' h x => (by obtain ⟨b1_2, h1, r1_2⟩ := h; exact ⟨_, h1, (r1_2.mk x.far (Nat.le_refl _) (.inr (Nat.le_refl _))).mono x.far.size⟩), fun g g' v w w' h x => (by obtain ⟨A, N, C, lo, hi, h1, h2, h3, h4, h5, h6, h7⟩ := h; exact ⟨A, N, C, lo, hi, h1, h2, h3, h4, Nat.le_trans h5 x.far.size, h6.mk x.far h5 (.inr (.inr (Nat.le_refl _))), h7.step x h5⟩), fun g g' v w w' h x => h.step x, trivial⟩) ⟨⟨Mk.drew1 _, k0_0, k0_1, k0_2, k1_0, k1_1, k1_2, xw0_0, xx0_0, xx0_1, xx0_2, xx1_0, xx1_1, xx1_2, xg0_0⟩, BxS.none_ _ _⟩ ?_
  change WkG _ _ _ _ _ _ 7 6 6 0 _
  refine WkG.value (m := 5) (k := 0) (by decide) rfl rfl (of_decide_eq_true (by rfl)) rfl (fun g w hS hF => ?_) (fun v0 => ?_)
  · obtain ⟨⟨s0, s1, s2, s3, s4, s5, s6, s7, s8, s9, s10, s11, s12, s13, s14⟩, hB⟩ := hS
    exact ⟨.agg #[.int .i64 a0_0, .int .i64 a0_1, .slice a0_2 n0_2 c0_2], w, g, (by go_simp; try with_reducible rfl), ⟨⟨s0, s1, s2, s3, s4, s5, s6, s7, s8, s9, s10, s11, s12, s13, s14⟩, hB⟩, BxX.same (Mk.refl _ _ _), rfl⟩
  try simp only [Act.put, List.getElem_toArray, List.getElem_cons_zero, List.setIfInBounds_toArray, List.set_cons_zero, List.set_cons_succ]
  refine WkG.call (m := 4) (k := 1) (by decide) rfl rfl (of_decide_eq_true (by rfl)) rfl (fun g w hS hF => ?_) (fun v1 => ?_)
  · obtain ⟨⟨s0, s1, s2, s3, s4, s5, s6, s7, s8, s9, s10, s11, s12, s13, s14⟩, hB⟩ := hS
    have f0 : v0 = .agg #[.int .i64 a0_0, .int .i64 a0_1, .slice a0_2 n0_2 c0_2] := hF 0 (by rfl)
    obtain rfl := f0
    refine ⟨_, _, (by go_simp; first | done | exact ⟨rfl, rfl⟩ | with_reducible rfl), ?_⟩
    refine (toSegmentC a0_0 a0_1 a0_2 n0_2 c0_2 z0_2 _ w (h0_2.mk (M17.trans s0) (Nat.le_refl _) (.inr (Nat.le_refl _))) (M17.trans s0).size hN0_2).mono ?_
    rintro e w' ⟨b0_2, rfl, o0, g0, mm⟩
    exact ⟨_, g, rfl, ⟨⟨s0.trans mm, mm.cellAt s1, mm.cellAt s2, mm.cellAt s3, mm.cellAt s4, mm.cellAt s5, mm.cellAt s6, mm.cellAt s7, mm.cellAt s8, mm.cellAt s9, mm.cellAt s10, mm.cellAt s11, mm.cellAt s12, mm.cellAt s13, mm.cellAt s14⟩, hB.mk0 mm⟩, BxX.same mm, ⟨_, rfl, o0.has.mono (Nat.le_refl _)⟩⟩
  try simp only [Act.put, List.getElem_toArray, List.getElem_cons_succ, List.getElem_cons_zero, List.setIfInBounds_toArray, List.set_cons_zero, List.set_cons_succ]
  refine WkG.value (m := 3) (k := 2) (by decide) rfl rfl (of_decide_eq_true (by rfl)) rfl (fun g w hS hF => ?_) (fun v2 => ?_)
  · obtain ⟨⟨s0, s1, s2, s3, s4, s5, s6, s7, s8, s9, s10, s11, s12, s13, s14⟩, hB⟩ := hS
    exact ⟨.agg #[.int .i64 a1_0, .int .i64 a1_1, .slice a1_2 n1_2 c1_2], w, g, (by go_simp; try with_reducible rfl), ⟨⟨s0, s1, s2, s3, s4, s5, s6, s7, s8, s9, s10, s11, s12, s13, s14⟩, hB⟩, BxX.same (Mk.refl _ _ _), rfl⟩
  try simp only [Act.put, List.getElem_toArray, List.getElem_cons_succ, List.getElem_cons_zero, List.setIfInBounds_toArray, List.set_cons_zero, List.set_cons_succ]
  refine WkG.call (m := 2) (k := 3) (by decide) rfl rfl (of_decide_eq_true (by rfl)) rfl (fun g w hS hF => ?_) (fun v3 => ?_)
  · obtain ⟨⟨s0, s1, s2, s3, s4, s5, s6, s7, s8, s9, s10, s11, s12, s13, s14⟩, hB⟩ := hS
    have f2 : v2 = .agg #[.int .i64 a1_0, .int .i64 a1_1, .slice a1_2 n1_2 c1_2] := hF 2 (by rfl)
    obtain rfl := f2
    refine ⟨_, _, (by go_simp; first | done | exact ⟨rfl, rfl⟩ | with_reducible rfl), ?_⟩
    refine (toSegmentC a1_0 a1_1 a1_2 n1_2 c1_2 z1_2 _ w (h1_2.mk (M17.trans s0) (Nat.le_refl _) (.inr (Nat.le_refl _))) (M17.trans s0).size hN1_2).mono ?_
    rintro e w' ⟨b1_2, rfl, o0, g0, mm⟩
    exact ⟨_, g, rfl, ⟨⟨s0.trans mm, mm.cellAt s1, mm.cellAt s2, mm.cellAt s3, mm.cellAt s4, mm.cellAt s5, mm.cellAt s6, mm.cellAt s7, mm.cellAt s8, mm.cellAt s9, mm.cellAt s10, mm.cellAt s11, mm.cellAt s12, mm.cellAt s13, mm.cellAt s14⟩, hB.mk0 mm⟩, BxX.same mm, ⟨_, rfl, o0.has.mono (Nat.le_refl _)⟩⟩
  try simp only [Act.put, List.getElem_toArray, List.getElem_cons_succ, List.getElem_cons_zero, List.setIfInBounds_toArray, List.set_cons_zero, List.set_cons_succ]
  refine WkG.call (m := 1) (k := 4) (by decide) rfl rfl (of_decide_eq_true (by rfl)) rfl (fun g w hS hF => ?_) (fun v4 => ?_)
  · obtain ⟨⟨s0, s1, s2, s3, s4, s5, s6, s7, s8, s9, s10, s11, s12, s13, s14⟩, hB⟩ := hS
    have f1 : ∃ b0_2, v1 = .agg #[.int .i64 a0_0, .int .i64 a0_1, .slice (some ⟨b0_2, 0, none⟩) n0_2 n0_2] ∧ HasHop w w.heap.size (some ⟨b0_2, 0, none⟩) n0_2 z0_2 := hF 1 (by rfl)
    obtain ⟨b0_2, rfl, r0_2⟩ := f1
    have f3 : ∃ b1_2, v3 = .agg #[.int .i64 a1_0, .int .i64 a1_1, .slice (some ⟨b1_2, 0, none⟩) n1_2 n1_2] ∧ HasHop w w.heap.size (some ⟨b1_2, 0, none⟩) n1_2 z1_2 := hF 3 (by rfl)
    obtain ⟨b1_2, rfl, r1_2⟩ := f3
    refine ⟨_, _, (by go_simp; first | done | exact ⟨rfl, rfl⟩ | with_reducible rfl), ?_⟩
    refine (implJudL a0_0 a0_1 _ n0_2 _ _ z0_2 a1_0 a1_1 _ n1_2 _ _ z1_2 w r0_2 (Nat.le_refl _) hN0_2 (fun h => by cases h) (Nat.le_refl _) r1_2 (Nat.le_refl _) hN1_2 (fun h => by cases h) (Nat.le_refl _)).mono ?_
    rintro e w' ⟨A, N, C, rfl, hc, ow, mm⟩
    exact ⟨_, g, rfl, ⟨⟨s0.trans mm, mm.cellAt s1, mm.cellAt s2, mm.cellAt s3, mm.cellAt s4, mm.cellAt s5, mm.cellAt s6, mm.cellAt s7, mm.cellAt s8, mm.cellAt s9, mm.cellAt s10, mm.cellAt s11, mm.cellAt s12, mm.cellAt s13, mm.cellAt s14⟩, hB.mk0 mm⟩, BxX.same mm, ⟨A, N, C, w.heap.size, w'.heap.size, rfl, hc, s0.size, mm.size, Nat.le_refl _, ow, BxA.of hB⟩⟩
  try simp only [Act.put, List.getElem_toArray, List.getElem_cons_succ, List.getElem_cons_zero, List.setIfInBounds_toArray, List.set_cons_zero, List.set_cons_succ]
  refine WkG.value (m := 0) (k := 5) (by decide) rfl rfl (of_decide_eq_true (by rfl)) rfl (fun g w hS hF => ?_) (fun v5 => ?_)
  · obtain ⟨⟨s0, s1, s2, s3, s4, s5, s6, s7, s8, s9, s10, s11, s12, s13, s14⟩, hB⟩ := hS
    have mm := Mk.alloc w (Obj.cells #[.slice none 0 0] 42)
    exact ⟨.pointer (some ⟨w.heap.size, 0, none⟩), (w.alloc (Obj.cells #[.slice none 0 0] 42)), bxP g 5 w.heap.size, (by go_simp; try with_reducible rfl), ⟨⟨s0.trans mm, mm.cellAt s1, mm.cellAt s2, mm.cellAt s3, mm.cellAt s4, mm.cellAt s5, mm.cellAt s6, mm.cellAt s7, mm.cellAt s8, mm.cellAt s9, mm.cellAt s10, mm.cellAt s11, mm.cellAt s12, mm.cellAt s13, mm.cellAt s14⟩, hB.put s0.size 5 (Obj.cells #[.slice none 0 0] 42)⟩, BxX.put 5 (Obj.cells #[.slice none 0 0] 42), BxZ.new g 5 [.slice none 0 0] 42 w⟩
  try simp only [Act.put, List.getElem_toArray, List.getElem_cons_succ, List.getElem_cons_zero, List.setIfInBounds_toArray, List.set_cons_zero, List.set_cons_succ]
  refine WkG.done fun gE wq18 hE hF => ?_
  clear k0_0 k0_1 k0_2 k1_0 k1_1 k1_2 xw0_0 xx0_0 xx0_1 xx0_2 xx1_0 xx1_1 xx1_2 xg0_0
  obtain ⟨⟨m18, k0_0, k0_1, k0_2, k1_0, k1_1, k1_2, xw0_0, xx0_0, xx0_1, xx0_2, xx1_0, xx1_1, xx1_2, xg0_0⟩, hBE⟩ := hE
  change wpAny _ _ _ _ 1 _ _ _
  have f4 : ∃ A N C lo hi, v4 = .agg #[.slice A N C] ∧ ((A = none → C = 0) ∧ (N ≤ C ∧ C ≤ 9223372036854775807)) ∧ w17.heap.size ≤ lo ∧ lo ≤ hi ∧ hi ≤ wq18.heap.size ∧ OwnN WPathPart wq18 lo hi A N (judR a0_0 a0_1 z0_2 n0_2 a1_0 a1_1 z1_2 n1_2) ∧ BxA gE lo hi := hF 4 (by decide)
  obtain ⟨Ah0, Nh0, Ch0, loh0, hih0, rfl, hch0, hlh0, hmh0, hhh0, oh0, hAh0⟩ := f4
  have f5 : BxZ gE 5 [.slice none 0 0] v5 wq18 := hF 5 (by decide)
  obtain ⟨Bh0, hgh0, rfl, hlth0, hzh0, hfh0⟩ := f5
  have hsh0 := hAh0 5 Bh0 hgh0
  have hbh00 := hBE.lo 5 Bh0 hgh0
  have xh0_0 := hzh0 0 _ rfl
  clear hF
  refine wpAny_ready (rs := [6]) (by kernel_rfl) (by simp) ?_
  refine (AllReady.cons rfl (fun K hK => ?_) AllReady.nil)
  go_simp
  refine hK _ _ ?_
  clear hK K
  try simp only [Act.put, List.getElem_toArray, List.getElem_cons_succ, List.getElem_cons_zero, List.setIfInBounds_toArray, List.set_cons_zero, List.set_cons_succ]
  have yn0 : Bh0 ≠ w.heap.size := by omega
  have yn1 : Bh0 ≠ w.heap.size + 1 := by omega
  have yn2 : Bh0 ≠ Bw0 := by omega
  have yn3 : Bh0 ≠ w4.heap.size := by omega
  have yn4 : Bh0 ≠ w6.heap.size := by omega
  have yn5 : Bh0 ≠ w8.heap.size := by omega
  replace xh0_0 := World.cell?_setCell_same _ _ (.slice Ah0 Nh0 Ch0) xh0_0
  replace k0_0 := cell_set k0_0 ⟨Bh0, 0, none⟩ (.slice Ah0 Nh0 Ch0) (.inl yn0)
  replace k0_1 := cell_set k0_1 ⟨Bh0, 0, none⟩ (.slice Ah0 Nh0 Ch0) (.inl yn0)
  replace k0_2 := cell_set k0_2 ⟨Bh0, 0, none⟩ (.slice Ah0 Nh0 Ch0) (.inl yn0)
  replace k1_0 := cell_set k1_0 ⟨Bh0, 0, none⟩ (.slice Ah0 Nh0 Ch0) (.inl yn1)
  replace k1_1 := cell_set k1_1 ⟨Bh0, 0, none⟩ (.slice Ah0 Nh0 Ch0) (.inl yn1)
  replace k1_2 := cell_set k1_2 ⟨Bh0, 0, none⟩ (.slice Ah0 Nh0 Ch0) (.inl yn1)
  replace xw0_0 := cell_set xw0_0 ⟨Bh0, 0, none⟩ (.slice Ah0 Nh0 Ch0) (.inl yn2)
  replace xx0_0 := cell_set xx0_0 ⟨Bh0, 0, none⟩ (.slice Ah0 Nh0 Ch0) (.inl yn3)
  replace xx0_1 := cell_set xx0_1 ⟨Bh0, 0, none⟩ (.slice Ah0 Nh0 Ch0) (.inl yn3)
  replace xx0_2 := cell_set xx0_2 ⟨Bh0, 0, none⟩ (.slice Ah0 Nh0 Ch0) (.inl yn3)
  replace xx1_0 := cell_set xx1_0 ⟨Bh0, 0, none⟩ (.slice Ah0 Nh0 Ch0) (.inl yn4)
  replace xx1_1 := cell_set xx1_1 ⟨Bh0, 0, none⟩ (.slice Ah0 Nh0 Ch0) (.inl yn4)
  replace xx1_2 := cell_set xx1_2 ⟨Bh0, 0, none⟩ (.slice Ah0 Nh0 Ch0) (.inl yn4)
  replace xg0_0 := cell_set xg0_0 ⟨Bh0, 0, none⟩ (.slice Ah0 Nh0 Ch0) (.inl yn5)
  replace oh0 := oh0.set ⟨Bh0, 0, none⟩ (.slice Ah0 Nh0 Ch0) hsh0
  replace m18 := m18.put ⟨Bh0, 0, none⟩ (.slice Ah0 Nh0 Ch0) hbh00
  have zq : (wq18.setCell ⟨Bh0, 0, none⟩ (.slice Ah0 Nh0 Ch0)).heap.size = wq18.heap.size := by simp only [World.size_set]
  clear hzh0 hfh0 hAh0 hgh0 hBE
  generalize (wq18.setCell ⟨Bh0, 0, none⟩ (.slice Ah0 Nh0 Ch0)) = w18 at *
  rw [← zq] at hhh0 hlth0
  clear zq
  clear yn0 yn1 yn2 yn3 yn4 yn5
  refine wpAny_doneN (by kernel_rfl) ?_
  refine ‹∀ (a : Act) (w : World), _ → _› _ _ ?_
  clear hN0_2 hN1_2 yr18_0 yr18_1 yr18_2 yr18_3 yr18_4 yr18_5
  obtain rfl : Nw0 = Nh0 := ow0.1.symm.trans oh0.1
  replace ow0 := ow0.mk m18 (by omega) (.inr (.inr (Nat.le_refl _)))
  replace og0 := og0.mk m18 (by omega) (.inr (.inr (Nat.le_refl _)))
  have M18 := M17.trans m18
  have z18 := m18.size
  go_wp2_with fail
  refine (eqPathCB _ _ _ _ _ _ _ _ _ oh0.hasPathPart ow0.hasPathPart (by omega) (by omega) hbw0).mono ?_
  rintro e w19 ⟨rfl, m19⟩
  have M19 := M18.trans m19
  have z19 := m19.size
  replace k0_0 := m19.cellAt k0_0
  replace k0_1 := m19.cellAt k0_1
  replace k0_2 := m19.cellAt k0_2
  replace k1_0 := m19.cellAt k1_0
  replace k1_1 := m19.cellAt k1_1
  replace k1_2 := m19.cellAt k1_2
  replace xw0_0 := m19.cellAt xw0_0
  replace xx0_0 := m19.cellAt xx0_0
  replace xx0_1 := m19.cellAt xx0_1
  replace xx0_2 := m19.cellAt xx0_2
  replace xx1_0 := m19.cellAt xx1_0
  replace xx1_1 := m19.cellAt xx1_1
  replace xx1_2 := m19.cellAt xx1_2
  replace xg0_0 := m19.cellAt xg0_0
  replace xh0_0 := m19.cellAt xh0_0
  replace ow0 := ow0.mk m19 (by omega) (.inr (.inr (Nat.le_refl _)))
  replace og0 := og0.mk m19 (by omega) (.inr (.inr (Nat.le_refl _)))
  replace oh0 := oh0.mk m19 (by omega) (.inr (.inr (Nat.le_refl _)))
  go_wp2_with fail
  refine (heldPathN _ _ _ _ _ (judR a0_0 a0_1 z0_2 n0_2 a1_0 a1_1 z1_2 n1_2) _ og0.hasPathPart (by omega) (by omega) hbw0t (by omega) (by omega)).mono ?_
  rintro e w20 ⟨rfl, m20⟩
  have M20 := M19.trans m20
  have z20 := m20.size
  replace k0_0 := m20.cellAt k0_0
  replace k0_1 := m20.cellAt k0_1
  replace k0_2 := m20.cellAt k0_2
  replace k1_0 := m20.cellAt k1_0
  replace k1_1 := m20.cellAt k1_1
  replace k1_2 := m20.cellAt k1_2
  replace xw0_0 := m20.cellAt xw0_0
  replace xx0_0 := m20.cellAt xx0_0
  replace xx0_1 := m20.cellAt xx0_1
  replace xx0_2 := m20.cellAt xx0_2
  replace xx1_0 := m20.cellAt xx1_0
  replace xx1_1 := m20.cellAt xx1_1
  replace xx1_2 := m20.cellAt xx1_2
  replace xg0_0 := m20.cellAt xg0_0
  replace xh0_0 := m20.cellAt xh0_0
  replace ow0 := ow0.mk m20 (by omega) (.inr (.inr (Nat.le_refl _)))
  replace og0 := og0.mk m20 (by omega) (.inr (.inr (Nat.le_refl _)))
  replace oh0 := oh0.mk m20 (by omega) (.inr (.inr (Nat.le_refl _)))
  go_wp2_with fail
  go_ret
  exact ⟨rfl, M20.below0⟩

set_option maxRecDepth 100000 in
theorem lifted (os : Os) (started : os.Started) (H : Type) (enc : TypeId × Value → H) :
    ReturnsInHanded {} Try.checked os 5 .any (Rows.fnExactJoinUpDownSpec.pre6 enc Try.prog Try.f5 Rows.fnExactJoinUpDownRow.domain false) (Rows.fnExactJoinUpDownSpec.post enc Try.prog Try.f5 false true false false) := by
  refine returnsInHanded_of_change (C := Try.checked) own started (by kernel_rfl) Try.func5
    (ChangeSpec.witness6 (enc := enc) (C := Try.checked) false ⟨#[], #[.agg #[.int .i64 0, .int .i64 0, .slice none 0 0], .agg #[.int .i64 0, .int .i64 0, .slice none 0 0]], []⟩ 8 (by kernel_rfl) (by kernel_rfl) (by kernel_rfl) (by kernel_rfl)) ?_
  intro W base args ds gs before hval0 hW hcnd _
  have hval : ∀ (j : Nat) t v, Try.f5.params[j]? = some t → args[j]? = some v → Value.okWide Try.prog W .any base t v := hval0
  have hW' := hW
  obtain ⟨p, q, hA0, hV, rfl, hfz, hnd⟩ := hW
  have hA : DataW.TrodAll enc Try.prog W 0 (fun _ => true) true Try.f5.params.toList args.toList ds p := hA0
  rw [Try.params5] at hA hval
  obtain ⟨v0, vs0, d0, ds0, p0, q0, hargs, rfl, rfl, h0, r0⟩ := trodAll_cons hA
  obtain ⟨v1, vs1, d1, ds1, p1, q1, rfl, rfl, rfl, h1, r1⟩ := trodAll_cons r0
  obtain ⟨rfl, rfl, rfl⟩ := trodAll_nil r1
  obtain rfl : args = #[v0, v1] := by cases args; simp_all
  obtain ⟨rfl, rfl⟩ := trodVars_none hV
  have k0 := h0
  have lt0 : ∀ x ∈ p0, x.block < W.heap.size := by obtain ⟨m, hm⟩ := k0; exact DataW.trod_lt m _ _ _ hm
  obtain ⟨cs0, rfl, hcs0, hf0⟩ := open_agg Try.underlying24 (by kernel_rfl) (by kernel_rfl) (hval 0 24 v0 rfl rfl) h0
  obtain ⟨_, _, _, e0_0, q0_0⟩ := hf0 0 _ rfl
  obtain ⟨a0_0, rfl, w0_0⟩ := one_int Try.underlying3 q0_0
  obtain ⟨_, _, _, e0_1, q0_1⟩ := hf0 1 _ rfl
  obtain ⟨a0_1, rfl, w0_1⟩ := one_int Try.underlying3 q0_1
  obtain ⟨_, _, _, e0_2, q0_2⟩ := hf0 2 _ rfl
  obtain ⟨a0_2, n0_2, c0_2, z0_2, rfl, m0_2, h0_2, f0_2⟩ := openHopS q0_2
  obtain rfl : cs0 = #[.int .i64 a0_0, .int .i64 a0_1, .slice a0_2 n0_2 c0_2] := arr_of [.int .i64 a0_0, .int .i64 a0_1, .slice a0_2 n0_2 c0_2] hcs0 (fun j hj => by match j, hj with | 0, _ => exact e0_0 | 1, _ => exact e0_1 | 2, _ => exact e0_2)
  have k1 := h1
  have lt1 : ∀ x ∈ p1, x.block < W.heap.size := by obtain ⟨m, hm⟩ := k1; exact DataW.trod_lt m _ _ _ hm
  obtain ⟨cs1, rfl, hcs1, hf1⟩ := open_agg Try.underlying24 (by kernel_rfl) (by kernel_rfl) (hval 1 24 v1 rfl rfl) h1
  obtain ⟨_, _, _, e1_0, q1_0⟩ := hf1 0 _ rfl
  obtain ⟨a1_0, rfl, w1_0⟩ := one_int Try.underlying3 q1_0
  obtain ⟨_, _, _, e1_1, q1_1⟩ := hf1 1 _ rfl
  obtain ⟨a1_1, rfl, w1_1⟩ := one_int Try.underlying3 q1_1
  obtain ⟨_, _, _, e1_2, q1_2⟩ := hf1 2 _ rfl
  obtain ⟨a1_2, n1_2, c1_2, z1_2, rfl, m1_2, h1_2, f1_2⟩ := openHopS q1_2
  obtain rfl : cs1 = #[.int .i64 a1_0, .int .i64 a1_1, .slice a1_2 n1_2 c1_2] := arr_of [.int .i64 a1_0, .int .i64 a1_1, .slice a1_2 n1_2 c1_2] hcs1 (fun j hj => by match j, hj with | 0, _ => exact e1_0 | 1, _ => exact e1_1 | 2, _ => exact e1_2)
  clear hA0 hval0
  refine (walk a0_0 a0_1 a0_2 n0_2 c0_2 z0_2 a1_0 a1_1 a1_2 n1_2 c1_2 z1_2 W w0_0 w0_1 h0_2 m0_2 f0_2 w1_0 w1_1 h1_2 m1_2 f1_2).mono fun e W' ⟨he, bel⟩ => ?_
  subst he
  exact ⟨_, rfl, _, _, _, [], _, [], hW', trodAll_mk1 (shut_bool Try.underlying4 _), (trodAll_cons_mk (Below.trod laidOut (by kernel_rfl) (of_decide_eq_true (by kernel_rfl)) k0 bel lt0) (trodAll_cons_mk (Below.trod laidOut (by kernel_rfl) (of_decide_eq_true (by kernel_rfl)) k1 bel lt1) trodAll_mk0)), rfl, bel.frame _, fun h => by cases h⟩

theorem over : Rows.fnExactJoinUpDownRow.holds Try.pinned (OpenSpec.ofChange Rows.fnExactJoinUpDownSpec) :=
  OpenClaim.holds_of_wide 5 Try.f5 rfl rfl rfl rfl rfl rfl rfl ⟨rfl, rfl, rfl, rfl, rfl⟩ rfl rfl rfl rfl rfl (by kernel_rfl) Try.func5 (by kernel_rfl)
    (of_decide_eq_true (by kernel_rfl)) (by unfold Func.isWrapper; first | (rw [if_pos (by decide +kernel)]; kernel_rfl) | (rw [if_neg (by decide +kernel)]; exact ⟨rfl, rfl⟩))
    (fun os started H enc _ => lifted os started H enc)

theorem proved : Rows.FnExactJoinUpDownSaid := over
#print axioms proved
end Go.Proofs.Ytbkbkpnpllemfaa.fnExactJoinUpDown
