
/- For every topology, policy and integer, the law on OriginInterfaces returns true; no further condition. -/
import Derived.Test.YtbbcpdgdihdmiaaGreatDoorCards
import Derived.Test.YtbbcpdgdihdmiaaGreatDoorTie
import Derived.Deep.DeepHandedRow
import Derived.Lib.LaidTab
import Derived.LaidHandle
import Derived.LaidLaws
import Derived.Stop.Joined
import Derived.RowKitTokens
import Derived.Test.YtbbcpdgdihdmiaaGreatDoorRows
import Derived.WalkKit
import Derived.ProofKit
import Derived.OpenShut
import Derived.ShutString
import Derived.ChangeOld
import Derived.Below
import Derived.Test.YtbbcpdgdihdmiaaGreatDoorStruct
import Derived.Test.YtbbcpdgdihdmiaaGreatDoorOAS
import Derived.Test.YtbbcpdgdihdmiaaGreatDoorZAS
import Derived.Test.YtbbcpdgdihdmiaaGreatDoorOLink
import Derived.Test.YtbbcpdgdihdmiaaGreatDoorZLink
import Derived.Deep.RegionHeld3
import Derived.Test.YtbbcpdgdihdmiaaGreatDoorOrn
import Derived.Test.YtbbcpdgdihdmiaaGreatDoorIntMark
import Derived.Test.YtbbcpdgdihdmiaaGreatDoorKTopology
import Derived.Test.YtbbcpdgdihdmiaaGreatDoorFg
namespace Go.Proofs.YtbbcpdgdihdmiaaGreatDoor.fnExactOriginInterfaces
open Go.ChangeShapes Go.WideShapes Go.ChangeAt Go.RowKit
open Go.ChangeMaps (open_string shut_string)
set_option linter.unusedVariables false

theorem own : ownKnob Tryz.prog.godebug = none := by kernel_rfl
theorem laidOut : laidOutB Tryz.prog = true := by kernel_rfl

theorem etG : Tryz.prog.globalNamed "errors.errorType" = some 0 := by kernel_rfl
theorem rtT : (Tryz.prog.cutTypes.find? (·.1 == "internal/reflectlite.rtype")).map (·.2) = some 161 := by kernel_rfl
theorem oneRow : ((List.range 204).filter fun t => Tryz.prog.rowNamed t [101, 114, 114, 111, 114]) = [139] := by kernel_rfl
theorem tysize : Tryz.prog.types.size = 204 := by kernel_rfl
theorem table {W : World} (h : laidMetH Tryz.prog Rows.fnExactOriginInterfacesRow.laid W) : W.cell? ⟨0, 0, none⟩ = some (.iface 161 (.agg #[.pointer (some ⟨1, 139, none⟩)])) := by
  have h2 : laidMet Tryz.prog [] W ∧ handlesMet Tryz.prog Rows.fnExactOriginInterfacesRow.laid W := h
  obtain ⟨name, u, ty, e1, e2, e3, e4, e5⟩ := h2.2 _ (List.mem_singleton.2 rfl)
  have en : name = [101, 114, 114, 111, 114] := (Option.some.inj e1).symm
  subst en
  obtain rfl := Option.some.inj (rtT.symm.trans e2)
  have hm : ty ∈ (List.range 204).filter fun t => Tryz.prog.rowNamed t [101, 114, 114, 111, 114] := List.mem_filter.2 ⟨List.mem_range.2 (by rw [← tysize]; exact e3), e4⟩
  rw [oneRow] at hm
  obtain rfl := List.mem_singleton.1 hm
  have hh : typeHandle Tryz.prog 139 = .pointer (some ⟨1, 139, none⟩) := by kernel_rfl
  rw [hh] at e5
  simpa using World.var?_cell etG e5 0

set_option maxRecDepth 100000 in
set_option maxHeartbeats 4000000 in
theorem walk (a0_0 : Option Addr) (n0_0 c0_0 : Nat) (z0_0 : List TAS) (a0_1 : Option Addr) (n0_1 c0_1 : Nat) (z0_1 : List TLink) (a1_0 : Int) (a1_1 : Int) (a1_2 : Int) (a1_3 : Int) (a2 : Int) (w : World) (h0_0 : HasAS w w.heap.size a0_0 n0_0 z0_0) (m0_0 : n0_0 ≤ 9223372036854775807) (f0_0 : ∀ x ∈ z0_0, TAS.fits x) (h0_1 : HasLink w w.heap.size a0_1 n0_1 z0_1) (m0_1 : n0_1 ≤ 9223372036854775807) (f0_1 : ∀ x ∈ z0_1, TLink.fits x) (w1_0 : (Lit.int .i64 a1_0).wf = true) (w1_1 : (Lit.int .i64 a1_1).wf = true) (w1_2 : (Lit.int .i64 a1_2).wf = true) (w1_3 : (Lit.int .i64 a1_3).wf = true) (w2 : (Lit.int .i64 a2).wf = true) (hg : w.cell? ⟨0, 0, none⟩ = some (.iface 161 (.agg #[.pointer (some ⟨1, 139, none⟩)]))) :
    Calls Tryz.prog 7 #[.agg #[.slice a0_0 n0_0 c0_0, .slice a0_1 n0_1 c0_1], .agg #[.int .i64 a1_0, .int .i64 a1_1, .int .i64 a1_2, .int .i64 a1_3], .int .i64 a2] w fun e w' => e = .returned (.bool true) ∧ Below w.heap.size w w' := by
  have wx2 := w2
  by_cases hbig0 : (1048576 : Int) < (n0_0 : Int) + (n0_1 : Int)
  · go_enter Tryz.func7, Tryz.ntmps7
    go_wp2_with fail
    have M0 : Mk0 w ((w.alloc (Obj.cells #[Value.slice a0_0 n0_0 c0_0, Value.slice a0_1 n0_1 c0_1] 25)).alloc (Obj.cells #[Value.int .i64 a1_0, Value.int .i64 a1_1, Value.int .i64 a1_2, Value.int .i64 a1_3] 27)) := ((Mk.alloc w _).new _)
    have k0_0 : ((w.alloc (Obj.cells #[Value.slice a0_0 n0_0 c0_0, Value.slice a0_1 n0_1 c0_1] 25)).alloc (Obj.cells #[Value.int .i64 a1_0, Value.int .i64 a1_1, Value.int .i64 a1_2, Value.int .i64 a1_3] 27)).cell? ⟨w.heap.size, 0, none⟩ = some (.slice a0_0 n0_0 c0_0) := by simp [go_sem]
    have k0_1 : ((w.alloc (Obj.cells #[Value.slice a0_0 n0_0 c0_0, Value.slice a0_1 n0_1 c0_1] 25)).alloc (Obj.cells #[Value.int .i64 a1_0, Value.int .i64 a1_1, Value.int .i64 a1_2, Value.int .i64 a1_3] 27)).cell? ⟨w.heap.size, 1, none⟩ = some (.slice a0_1 n0_1 c0_1) := by simp [go_sem]
    have k1_0 : ((w.alloc (Obj.cells #[Value.slice a0_0 n0_0 c0_0, Value.slice a0_1 n0_1 c0_1] 25)).alloc (Obj.cells #[Value.int .i64 a1_0, Value.int .i64 a1_1, Value.int .i64 a1_2, Value.int .i64 a1_3] 27)).cell? ⟨w.heap.size + 1, 0, none⟩ = some (.int .i64 a1_0) := by simp [go_sem]
    have k1_1 : ((w.alloc (Obj.cells #[Value.slice a0_0 n0_0 c0_0, Value.slice a0_1 n0_1 c0_1] 25)).alloc (Obj.cells #[Value.int .i64 a1_0, Value.int .i64 a1_1, Value.int .i64 a1_2, Value.int .i64 a1_3] 27)).cell? ⟨w.heap.size + 1, 1, none⟩ = some (.int .i64 a1_1) := by simp [go_sem]
    have k1_2 : ((w.alloc (Obj.cells #[Value.slice a0_0 n0_0 c0_0, Value.slice a0_1 n0_1 c0_1] 25)).alloc (Obj.cells #[Value.int .i64 a1_0, Value.int .i64 a1_1, Value.int .i64 a1_2, Value.int .i64 a1_3] 27)).cell? ⟨w.heap.size + 1, 2, none⟩ = some (.int .i64 a1_2) := by simp [go_sem]
    have k1_3 : ((w.alloc (Obj.cells #[Value.slice a0_0 n0_0 c0_0, Value.slice a0_1 n0_1 c0_1] 25)).alloc (Obj.cells #[Value.int .i64 a1_0, Value.int .i64 a1_1, Value.int .i64 a1_2, Value.int .i64 a1_3] 27)).cell? ⟨w.heap.size + 1, 3, none⟩ = some (.int .i64 a1_3) := by simp [go_sem]
    refine (szTopologyB _ _ _ _ _ _ _ _ (by omega) (by omega) (by omega) m0_0 m0_1).mono ?_
    rintro e w1 ⟨rfl, m1⟩
    go_wp2_with fail
    go_ret
    exact ⟨rfl, (M0.trans m1).below0⟩
  have hn0 : (n0_0 : Int) + (n0_1 : Int) ≤ (1048576 : Int) := by omega
  clear hbig0
  go_enter Tryz.func7, Tryz.ntmps7
  go_wp2_with fail
  have M0 : Mk0 w ((w.alloc (Obj.cells #[Value.slice a0_0 n0_0 c0_0, Value.slice a0_1 n0_1 c0_1] 25)).alloc (Obj.cells #[Value.int .i64 a1_0, Value.int .i64 a1_1, Value.int .i64 a1_2, Value.int .i64 a1_3] 27)) := ((Mk.alloc w _).new _)
  have k0_0 : ((w.alloc (Obj.cells #[Value.slice a0_0 n0_0 c0_0, Value.slice a0_1 n0_1 c0_1] 25)).alloc (Obj.cells #[Value.int .i64 a1_0, Value.int .i64 a1_1, Value.int .i64 a1_2, Value.int .i64 a1_3] 27)).cell? ⟨w.heap.size, 0, none⟩ = some (.slice a0_0 n0_0 c0_0) := by simp [go_sem]
  have k0_1 : ((w.alloc (Obj.cells #[Value.slice a0_0 n0_0 c0_0, Value.slice a0_1 n0_1 c0_1] 25)).alloc (Obj.cells #[Value.int .i64 a1_0, Value.int .i64 a1_1, Value.int .i64 a1_2, Value.int .i64 a1_3] 27)).cell? ⟨w.heap.size, 1, none⟩ = some (.slice a0_1 n0_1 c0_1) := by simp [go_sem]
  have k1_0 : ((w.alloc (Obj.cells #[Value.slice a0_0 n0_0 c0_0, Value.slice a0_1 n0_1 c0_1] 25)).alloc (Obj.cells #[Value.int .i64 a1_0, Value.int .i64 a1_1, Value.int .i64 a1_2, Value.int .i64 a1_3] 27)).cell? ⟨w.heap.size + 1, 0, none⟩ = some (.int .i64 a1_0) := by simp [go_sem]
  have k1_1 : ((w.alloc (Obj.cells #[Value.slice a0_0 n0_0 c0_0, Value.slice a0_1 n0_1 c0_1] 25)).alloc (Obj.cells #[Value.int .i64 a1_0, Value.int .i64 a1_1, Value.int .i64 a1_2, Value.int .i64 a1_3] 27)).cell? ⟨w.heap.size + 1, 1, none⟩ = some (.int .i64 a1_1) := by simp [go_sem]
  have k1_2 : ((w.alloc (Obj.cells #[Value.slice a0_0 n0_0 c0_0, Value.slice a0_1 n0_1 c0_1] 25)).alloc (Obj.cells #[Value.int .i64 a1_0, Value.int .i64 a1_1, Value.int .i64 a1_2, Value.int .i64 a1_3] 27)).cell? ⟨w.heap.size + 1, 2, none⟩ = some (.int .i64 a1_2) := by simp [go_sem]
  have k1_3 : ((w.alloc (Obj.cells #[Value.slice a0_0 n0_0 c0_0, Value.slice a0_1 n0_1 c0_1] 25)).alloc (Obj.cells #[Value.int .i64 a1_0, Value.int .i64 a1_1, Value.int .i64 a1_2, Value.int .i64 a1_3] 27)).cell? ⟨w.heap.size + 1, 3, none⟩ = some (.int .i64 a1_3) := by simp [go_sem]
  refine (szTopologyC _ _ _ _ _ _ _ _ (by omega) (by omega) (by omega)).mono ?_
  rintro e w1 ⟨l1, hl1, rfl, m1⟩
  have M1 := M0.trans m1
  replace k0_0 := m1.cellAt k0_0
  replace k0_1 := m1.cellAt k0_1
  replace k1_0 := m1.cellAt k1_0
  replace k1_1 := m1.cellAt k1_1
  replace k1_2 := m1.cellAt k1_2
  replace k1_3 := m1.cellAt k1_3
  have z1 := m1.size
  simp only [World.size_alloc] at z1
  go_wp2_with fail
  have yr2_0 : w.heap.size < w1.heap.size := by omega
  have yr2_1 : w.heap.size + 1 < w1.heap.size := by omega
  have hN0_0 : n0_0 ≤ 1048576 := by omega
  have hN0_1 : n0_1 ≤ 1048576 := by omega
  refine wp_region_fg (fun (g : Bxs) w' => (Mk0 w1 w' ∧ w'.cell? ⟨w.heap.size, 0, none⟩ = some (.slice a0_0 n0_0 c0_0) ∧ w'.cell? ⟨w.heap.size, 1, none⟩ = some (.slice a0_1 n0_1 c0_1) ∧ w'.cell? ⟨w.heap.size + 1, 0, none⟩ = some (.int .i64 a1_0) ∧ w'.cell? ⟨w.heap.size + 1, 1, none⟩ = some (.int .i64 a1_1) ∧ w'.cell? ⟨w.heap.size + 1, 2, none⟩ = some (.int .i64 a1_2) ∧ w'.cell? ⟨w.heap.size + 1, 3, none⟩ = some (.int .i64 a1_3)) ∧ BxS w1.heap.size g w') (fgF [fun g v w => v = .agg #[.slice a0_0 n0_0 c0_0, .slice a0_1 n0_1 c0_1], fun g v w => ∃ b0_0 b0_1, v = .agg #[.slice (some ⟨b0_0, 0, none⟩) n0_0 n0_0, .slice (some ⟨b0_1, 0, none⟩) n0_1 n0_1] ∧ HasAS w w.heap.size (some ⟨b0_0, 0, none⟩) n0_0 z0_0 ∧ HasLink w w.heap.size (some ⟨b0_1, 0, none⟩) n0_1 z0_1, fun g v w => v = .agg #[.int .i64 a1_0, .int .i64 a1_1, .int .i64 a1_2, .int .i64 a1_3], fun g v w => v = .agg #[.int .i64 a1_0, .int .i64 a1_1, .int .i64 a1_2, .int .i64 a1_3], fun g v w => v = .int .i64 a2, fun g v w => ∃ A N C lo hi, v = .slice A N C ∧ (A = none → C = 0) ∧ w1.heap.size ≤ lo ∧ lo ≤ hi ∧ hi ≤ w.heap.size ∧ OwnR 1 (icell .i64) w lo hi A N (pickI (ornF z0_0 n0_0 z0_1 n0_1 ⟨a1_0, a1_1, a1_2, a1_3⟩ a2) 6) ∧ BxA g lo hi]) BxX (fun _ _ => False) 7 6 (by kernel_rfl) (by kernel_rfl) (by decide) (by decide) (by kernel_rfl) (fun h => absurd h (by decide)) (fgM_mono ⟨fun g g' v w w' h x => h, fun g g' v w w' h x => (by obtain ⟨b0_0, b0_1, h1, r0_0, r0_1⟩ := h; exact ⟨_, _, h1, (r0_0.mk x.far (Nat.le_refl _) (.inr (Nat.le_refl _))).mono x.far.size, (r0_1.mk x.far (Nat.le_refl _) (.inr (Nat.le_refl _))).mono x.far.size⟩), fun g g' v w w' h x => h, fun g g' v w w' h x => h, fun g g' v w w' h x => h, fun g g' v w w' h x => (by obtain ⟨A, N, C, lo, hi, h1, h2, h3, h4, h5, h6, h7⟩ := h; exact ⟨A, N, C, lo, hi, h1, h2, h3, h4, Nat.le_trans h5 x.far.size, h6.mk x.far h5 (.inr (.inr (Nat.le_refl _))), h7.step x h5⟩), trivial⟩) ⟨⟨Mk.drew1 _, k0_0, k0_1, k1_0, k1_1, k1_2, k1_3⟩, BxS.none_ _ _⟩ ?_
  change WkG _ _ _ _ _ _ 7 6 6 0 _
  refine WkG.value (m := 5) (k := 0) (by decide) rfl rfl (of_decide_eq_true (by rfl)) rfl (fun g w hS hF => ?_) (fun v0 => ?_)
  · obtain ⟨⟨s0, s1, s2, s3, s4, s5, s6⟩, hB⟩ := hS
    exact ⟨.agg #[.slice a0_0 n0_0 c0_0, .slice a0_1 n0_1 c0_1], w, g, (by go_simp; try with_reducible rfl), ⟨⟨s0, s1, s2, s3, s4, s5, s6⟩, hB⟩, BxX.same (Mk.refl _ _ _), rfl⟩
  try simp only [Act.put, List.getElem_toArray, List.getElem_cons_zero, List.setIfInBounds_toArray, List.set_cons_zero, List.set_cons_succ]
  refine WkG.call (m := 4) (k := 1) (by decide) rfl rfl (of_decide_eq_true (by rfl)) rfl (fun g w hS hF => ?_) (fun v1 => ?_)
  · obtain ⟨⟨s0, s1, s2, s3, s4, s5, s6⟩, hB⟩ := hS
    have f0 : v0 = .agg #[.slice a0_0 n0_0 c0_0, .slice a0_1 n0_1 c0_1] := hF 0 (by rfl)
    obtain rfl := f0
    refine ⟨_, _, (by go_simp; first | done | exact ⟨rfl, rfl⟩ | with_reducible rfl), ?_⟩
    refine (toTopologyC a0_0 n0_0 c0_0 z0_0 a0_1 n0_1 c0_1 z0_1 _ w (h0_0.mk (M1.trans s0) (Nat.le_refl _) (.inr (Nat.le_refl _))) (h0_1.mk (M1.trans s0) (Nat.le_refl _) (.inr (Nat.le_refl _))) (M1.trans s0).size hN0_0 hN0_1).mono ?_
    rintro e w' ⟨b0_0, b0_1, d0, rfl, o0, o1, g0, g1, mm⟩
    exact ⟨_, g, rfl, ⟨⟨s0.trans mm, mm.cellAt s1, mm.cellAt s2, mm.cellAt s3, mm.cellAt s4, mm.cellAt s5, mm.cellAt s6⟩, hB.mk0 mm⟩, BxX.same mm, ⟨_, _, rfl, o0.has.mono g1, o1.has.mono (Nat.le_refl _)⟩⟩
  try simp only [Act.put, List.getElem_toArray, List.getElem_cons_succ, List.getElem_cons_zero, List.setIfInBounds_toArray, List.set_cons_zero, List.set_cons_succ]
  refine WkG.value (m := 3) (k := 2) (by decide) rfl rfl (of_decide_eq_true (by rfl)) rfl (fun g w hS hF => ?_) (fun v2 => ?_)
  · obtain ⟨⟨s0, s1, s2, s3, s4, s5, s6⟩, hB⟩ := hS
    exact ⟨.agg #[.int .i64 a1_0, .int .i64 a1_1, .int .i64 a1_2, .int .i64 a1_3], w, g, (by go_simp; try with_reducible rfl), ⟨⟨s0, s1, s2, s3, s4, s5, s6⟩, hB⟩, BxX.same (Mk.refl _ _ _), rfl⟩
  try simp only [Act.put, List.getElem_toArray, List.getElem_cons_succ, List.getElem_cons_zero, List.setIfInBounds_toArray, List.set_cons_zero, List.set_cons_succ]
  refine WkG.call (m := 2) (k := 3) (by decide) rfl rfl (of_decide_eq_true (by rfl)) rfl (fun g w hS hF => ?_) (fun v3 => ?_)
  · obtain ⟨⟨s0, s1, s2, s3, s4, s5, s6⟩, hB⟩ := hS
    have f2 : v2 = .agg #[.int .i64 a1_0, .int .i64 a1_1, .int .i64 a1_2, .int .i64 a1_3] := hF 2 (by rfl)
    obtain rfl := f2
    refine ⟨_, _, (by go_simp; first | done | exact ⟨rfl, rfl⟩ | with_reducible rfl), ?_⟩
    refine (toPolicyI a1_0 a1_1 a1_2 a1_3 w).mono ?_
    rintro e w' ⟨rfl, mm⟩
    exact ⟨_, g, rfl, ⟨⟨s0.trans mm, mm.cellAt s1, mm.cellAt s2, mm.cellAt s3, mm.cellAt s4, mm.cellAt s5, mm.cellAt s6⟩, hB.mk0 mm⟩, BxX.same mm, rfl⟩
  try simp only [Act.put, List.getElem_toArray, List.getElem_cons_succ, List.getElem_cons_zero, List.setIfInBounds_toArray, List.set_cons_zero, List.set_cons_succ]
  refine WkG.value (m := 1) (k := 4) (by decide) rfl rfl (of_decide_eq_true (by rfl)) rfl (fun g w hS hF => ?_) (fun v4 => ?_)
  · obtain ⟨⟨s0, s1, s2, s3, s4, s5, s6⟩, hB⟩ := hS
    exact ⟨.int .i64 a2, w, g, (by go_simp; try with_reducible rfl), ⟨⟨s0, s1, s2, s3, s4, s5, s6⟩, hB⟩, BxX.same (Mk.refl _ _ _), rfl⟩
  try simp only [Act.put, List.getElem_toArray, List.getElem_cons_succ, List.getElem_cons_zero, List.setIfInBounds_toArray, List.set_cons_zero, List.set_cons_succ]
  refine WkG.call (m := 0) (k := 5) (by decide) rfl rfl (of_decide_eq_true (by rfl)) rfl (fun g w hS hF => ?_) (fun v5 => ?_)
  · obtain ⟨⟨s0, s1, s2, s3, s4, s5, s6⟩, hB⟩ := hS
    have f1 : ∃ b0_0 b0_1, v1 = .agg #[.slice (some ⟨b0_0, 0, none⟩) n0_0 n0_0, .slice (some ⟨b0_1, 0, none⟩) n0_1 n0_1] ∧ HasAS w w.heap.size (some ⟨b0_0, 0, none⟩) n0_0 z0_0 ∧ HasLink w w.heap.size (some ⟨b0_1, 0, none⟩) n0_1 z0_1 := hF 1 (by rfl)
    obtain ⟨b0_0, b0_1, rfl, r0_0, r0_1⟩ := f1
    have f3 : v3 = .agg #[.int .i64 a1_0, .int .i64 a1_1, .int .i64 a1_2, .int .i64 a1_3] := hF 3 (by rfl)
    obtain rfl := f3
    have f4 : v4 = .int .i64 a2 := hF 4 (by rfl)
    obtain rfl := f4
    refine ⟨_, _, (by go_simp; first | done | exact ⟨rfl, rfl⟩ | with_reducible rfl), ?_⟩
    refine (specOrn _ _ _ _ _ _ _ z0_0 z0_1 ⟨a1_0, a1_1, a1_2, a1_3⟩ a2 w r0_0 r0_1 (Nat.le_refl _) hN0_0 hN0_1 f0_0 wx2).mono ?_
    rintro e w' ⟨A, N, C, rfl, hc, ow0, bm⟩; have mm := Mk.of_below bm; have ow := ow0.toR (Nat.le_refl _)
    exact ⟨_, g, rfl, ⟨⟨s0.trans mm, mm.cellAt s1, mm.cellAt s2, mm.cellAt s3, mm.cellAt s4, mm.cellAt s5, mm.cellAt s6⟩, hB.mk0 mm⟩, BxX.same mm, ⟨A, N, C, w.heap.size, w'.heap.size, rfl, hc, s0.size, mm.size, Nat.le_refl _, ow, BxA.of hB⟩⟩
  try simp only [Act.put, List.getElem_toArray, List.getElem_cons_succ, List.getElem_cons_zero, List.setIfInBounds_toArray, List.set_cons_zero, List.set_cons_succ]
  refine WkG.done fun gE w2 hE hF => ?_
  clear k0_0 k0_1 k1_0 k1_1 k1_2 k1_3
  obtain ⟨⟨m2, k0_0, k0_1, k1_0, k1_1, k1_2, k1_3⟩, hBE⟩ := hE
  change wpAny _ _ _ _ 1 _ _ _
  have f5 : ∃ A N C lo hi, v5 = .slice A N C ∧ (A = none → C = 0) ∧ w1.heap.size ≤ lo ∧ lo ≤ hi ∧ hi ≤ w2.heap.size ∧ OwnR 1 (icell .i64) w2 lo hi A N (pickI (ornF z0_0 n0_0 z0_1 n0_1 ⟨a1_0, a1_1, a1_2, a1_3⟩ a2) 6) ∧ BxA gE lo hi := hF 5 (by decide)
  obtain ⟨Aw0, Nw0, Cw0, low0, hiw0, rfl, hcw0, hlw0, hmw0, hhw0, ow0, hAw0⟩ := f5
  clear hF
  refine wpAny_ready (rs := [6]) (by kernel_rfl) (by simp) ?_
  refine (AllReady.cons rfl (fun K hK => ?_) AllReady.nil)
  go_simp
  refine hK _ _ ?_
  clear hK K
  try simp only [Act.put, List.getElem_toArray, List.getElem_cons_succ, List.getElem_cons_zero, List.setIfInBounds_toArray, List.set_cons_zero, List.set_cons_succ]
  clear hAw0 hBE
  refine wpAny_doneN (by kernel_rfl) ?_
  refine ‹∀ (a : Act) (w : World), _ → _› _ _ ?_
  clear hN0_0 hN0_1 yr2_0 yr2_1
  have hbw0 : Nw0 ≤ 1073741824 := by have h1 := pickI_le (ornF z0_0 n0_0 z0_1 n0_1 ⟨a1_0, a1_1, a1_2, a1_3⟩ a2) 6; have h2 := ow0.1; omega
  have M2 := M1.trans m2
  have z2 := m2.size
  go_wp2_with fail
  refine (toTopologyC _ _ _ _ _ _ _ _ w.heap.size _ (h0_0.mk M2 (Nat.le_refl _) (.inr (Nat.le_refl _))) (h0_1.mk M2 (Nat.le_refl _) (.inr (Nat.le_refl _))) (by omega) (by omega) (by omega)).mono ?_
  rintro e w3 ⟨b1, b2, d3, rfl, o4, o5, g6, g7, m3⟩
  have M3 := M2.trans m3
  have z3 := m3.size
  replace k0_0 := m3.cellAt k0_0
  replace k0_1 := m3.cellAt k0_1
  replace k1_0 := m3.cellAt k1_0
  replace k1_1 := m3.cellAt k1_1
  replace k1_2 := m3.cellAt k1_2
  replace k1_3 := m3.cellAt k1_3
  replace ow0 := ow0.mk m3 (by omega) (.inr (.inr (Nat.le_refl _)))
  have h8 := o4.has.mono (B' := w3.heap.size) (by omega)
  have h9 := o5.has.mono (B' := w3.heap.size) (by omega)
  have yb10 : w.heap.size < w3.heap.size := by omega
  have yb11 : w.heap.size + 1 < w3.heap.size := by omega
  go_wp2_with fail
  have xx0_0 : (w3.alloc (Obj.cells #[Value.slice (some ⟨b1, 0, none⟩) n0_0 n0_0, Value.slice (some ⟨b2, 0, none⟩) n0_1 n0_1] 37)).cell? ⟨w3.heap.size, 0, none⟩ = some (.slice (some ⟨b1, 0, none⟩) n0_0 n0_0) := by rw [World.cell?_alloc_at _ _ _ _ rfl]; rfl
  have xx0_1 : (w3.alloc (Obj.cells #[Value.slice (some ⟨b1, 0, none⟩) n0_0 n0_0, Value.slice (some ⟨b2, 0, none⟩) n0_1 n0_1] 37)).cell? ⟨w3.heap.size, 1, none⟩ = some (.slice (some ⟨b2, 0, none⟩) n0_1 n0_1) := by rw [World.cell?_alloc_at _ _ _ _ rfl]; rfl
  have m4 := Mk.alloc w3 (Obj.cells #[Value.slice (some ⟨b1, 0, none⟩) n0_0 n0_0, Value.slice (some ⟨b2, 0, none⟩) n0_1 n0_1] 37)
  replace k0_0 := m4.cellAt k0_0
  replace k0_1 := m4.cellAt k0_1
  replace k1_0 := m4.cellAt k1_0
  replace k1_1 := m4.cellAt k1_1
  replace k1_2 := m4.cellAt k1_2
  replace k1_3 := m4.cellAt k1_3
  replace h8 := h8.mk m4 (by omega) (.inr (Nat.le_refl _))
  replace h9 := h9.mk m4 (by omega) (.inr (Nat.le_refl _))
  replace o4 := o4.mk m4 (by omega) (.inr (.inr (Nat.le_refl _)))
  replace o5 := o5.mk m4 (by omega) (.inr (.inr (Nat.le_refl _)))
  replace ow0 := ow0.mk m4 (by omega) (.inr (.inr (Nat.le_refl _)))
  have M4 := M3.trans m4
  have z4 := m4.size
  have zz4 : w3.heap.size < (w3.alloc (Obj.cells #[Value.slice (some ⟨b1, 0, none⟩) n0_0 n0_0, Value.slice (some ⟨b2, 0, none⟩) n0_1 n0_1] 37)).heap.size := by rw [World.size_alloc]; omega
  generalize (w3.alloc (Obj.cells #[Value.slice (some ⟨b1, 0, none⟩) n0_0 n0_0, Value.slice (some ⟨b2, 0, none⟩) n0_1 n0_1] 37)) = w4 at *
  have yr5_0 : w.heap.size < w4.heap.size := by omega
  have yr5_1 : w.heap.size + 1 < w4.heap.size := by omega
  have yr5_2 : w3.heap.size < w4.heap.size := by omega
  have e12 : ∀ w', Mk0 w4 w' → HasAS w' w'.heap.size (some ⟨b1, 0, none⟩) n0_0 z0_0 := fun w' m => (h8.mk m (by omega) (.inr (Nat.le_refl _))).mono (Nat.le_trans (by omega) m.size)
  have e13 : ∀ w', Mk0 w4 w' → HasLink w' w'.heap.size (some ⟨b2, 0, none⟩) n0_1 z0_1 := fun w' m => (h9.mk m (by omega) (.inr (Nat.le_refl _))).mono (Nat.le_trans (by omega) m.size)
  have hN0_0 : n0_0 ≤ 1048576 := by omega
  have hN0_1 : n0_1 ≤ 1048576 := by omega
  refine wp_region_fg (fun (g : Bxs) w' => (Mk0 w4 w' ∧ w'.cell? ⟨w.heap.size, 0, none⟩ = some (.slice a0_0 n0_0 c0_0) ∧ w'.cell? ⟨w.heap.size, 1, none⟩ = some (.slice a0_1 n0_1 c0_1) ∧ w'.cell? ⟨w.heap.size + 1, 0, none⟩ = some (.int .i64 a1_0) ∧ w'.cell? ⟨w.heap.size + 1, 1, none⟩ = some (.int .i64 a1_1) ∧ w'.cell? ⟨w.heap.size + 1, 2, none⟩ = some (.int .i64 a1_2) ∧ w'.cell? ⟨w.heap.size + 1, 3, none⟩ = some (.int .i64 a1_3) ∧ w'.cell? ⟨w3.heap.size, 0, none⟩ = some (.slice (some ⟨b1, 0, none⟩) n0_0 n0_0) ∧ w'.cell? ⟨w3.heap.size, 1, none⟩ = some (.slice (some ⟨b2, 0, none⟩) n0_1 n0_1)) ∧ BxS w4.heap.size g w') (fgF [fun g v w => v = .agg #[.slice (some ⟨b1, 0, none⟩) n0_0 n0_0, .slice (some ⟨b2, 0, none⟩) n0_1 n0_1], fun g v w => v = .agg #[.int .i64 a1_0, .int .i64 a1_1, .int .i64 a1_2, .int .i64 a1_3], fun g v w => v = .agg #[.int .i64 a1_0, .int .i64 a1_1, .int .i64 a1_2, .int .i64 a1_3], fun g v w => v = .int .i64 a2, fun g v w => ∃ A N C lo hi, v = .slice A N C ∧ (A = none → C = 0) ∧ w4.heap.size ≤ lo ∧ lo ≤ hi ∧ hi ≤ w.heap.size ∧ OwnR 1 (icell .i64) w lo hi A N (pickI (ornF z0_0 n0_0 z0_1 n0_1 ⟨a1_0, a1_1, a1_2, a1_3⟩ a2) 6) ∧ BxA g lo hi]) BxX (fun _ _ => False) 6 5 (by kernel_rfl) (by kernel_rfl) (by decide) (by decide) (by kernel_rfl) (fun h => absurd h (by decide)) (fgM_mono ⟨fun g g' v w w' h x => h, fun g g' v w w' h x => h, fun g g' v w w' h x => h, fun g g' v w w' h x => h, fun g g' v w w' h x => (by obtain ⟨A, N, C, lo, hi, h1, h2, h3, h4, h5, h6, h7⟩ := h; exact ⟨A, N, C, lo, hi, h1, h2, h3, h4, Nat.le_trans h5 x.far.size, h6.mk x.far h5 (.inr (.inr (Nat.le_refl _))), h7.step x h5⟩), trivial⟩) ⟨⟨Mk.drew1 _, k0_0, k0_1, k1_0, k1_1, k1_2, k1_3, xx0_0, xx0_1⟩, BxS.none_ _ _⟩ ?_
  change WkG _ _ _ _ _ _ 6 5 5 0 _
  refine WkG.value (m := 4) (k := 0) (by decide) rfl rfl (of_decide_eq_true (by rfl)) rfl (fun g w hS hF => ?_) (fun v0 => ?_)
  · obtain ⟨⟨s0, s1, s2, s3, s4, s5, s6, s7, s8⟩, hB⟩ := hS
    exact ⟨.agg #[.slice (some ⟨b1, 0, none⟩) n0_0 n0_0, .slice (some ⟨b2, 0, none⟩) n0_1 n0_1], w, g, (by go_simp; try with_reducible rfl), ⟨⟨s0, s1, s2, s3, s4, s5, s6, s7, s8⟩, hB⟩, BxX.same (Mk.refl _ _ _), rfl⟩
  try simp only [Act.put, List.getElem_toArray, List.getElem_cons_zero, List.setIfInBounds_toArray, List.set_cons_zero, List.set_cons_succ]
  refine WkG.value (m := 3) (k := 1) (by decide) rfl rfl (of_decide_eq_true (by rfl)) rfl (fun g w hS hF => ?_) (fun v1 => ?_)
  · obtain ⟨⟨s0, s1, s2, s3, s4, s5, s6, s7, s8⟩, hB⟩ := hS
    exact ⟨.agg #[.int .i64 a1_0, .int .i64 a1_1, .int .i64 a1_2, .int .i64 a1_3], w, g, (by go_simp; try with_reducible rfl), ⟨⟨s0, s1, s2, s3, s4, s5, s6, s7, s8⟩, hB⟩, BxX.same (Mk.refl _ _ _), rfl⟩
  try simp only [Act.put, List.getElem_toArray, List.getElem_cons_succ, List.getElem_cons_zero, List.setIfInBounds_toArray, List.set_cons_zero, List.set_cons_succ]
  refine WkG.call (m := 2) (k := 2) (by decide) rfl rfl (of_decide_eq_true (by rfl)) rfl (fun g w hS hF => ?_) (fun v2 => ?_)
  · obtain ⟨⟨s0, s1, s2, s3, s4, s5, s6, s7, s8⟩, hB⟩ := hS
    have f1 : v1 = .agg #[.int .i64 a1_0, .int .i64 a1_1, .int .i64 a1_2, .int .i64 a1_3] := hF 1 (by rfl)
    obtain rfl := f1
    refine ⟨_, _, (by go_simp; first | done | exact ⟨rfl, rfl⟩ | with_reducible rfl), ?_⟩
    refine (toPolicyI a1_0 a1_1 a1_2 a1_3 w).mono ?_
    rintro e w' ⟨rfl, mm⟩
    exact ⟨_, g, rfl, ⟨⟨s0.trans mm, mm.cellAt s1, mm.cellAt s2, mm.cellAt s3, mm.cellAt s4, mm.cellAt s5, mm.cellAt s6, mm.cellAt s7, mm.cellAt s8⟩, hB.mk0 mm⟩, BxX.same mm, rfl⟩
  try simp only [Act.put, List.getElem_toArray, List.getElem_cons_succ, List.getElem_cons_zero, List.setIfInBounds_toArray, List.set_cons_zero, List.set_cons_succ]
  refine WkG.value (m := 1) (k := 3) (by decide) rfl rfl (of_decide_eq_true (by rfl)) rfl (fun g w hS hF => ?_) (fun v3 => ?_)
  · obtain ⟨⟨s0, s1, s2, s3, s4, s5, s6, s7, s8⟩, hB⟩ := hS
    exact ⟨.int .i64 a2, w, g, (by go_simp; try with_reducible rfl), ⟨⟨s0, s1, s2, s3, s4, s5, s6, s7, s8⟩, hB⟩, BxX.same (Mk.refl _ _ _), rfl⟩
  try simp only [Act.put, List.getElem_toArray, List.getElem_cons_succ, List.getElem_cons_zero, List.setIfInBounds_toArray, List.set_cons_zero, List.set_cons_succ]
  refine WkG.call (m := 0) (k := 4) (by decide) rfl rfl (of_decide_eq_true (by rfl)) rfl (fun g w hS hF => ?_) (fun v4 => ?_)
  · obtain ⟨⟨s0, s1, s2, s3, s4, s5, s6, s7, s8⟩, hB⟩ := hS
    have f0 : v0 = .agg #[.slice (some ⟨b1, 0, none⟩) n0_0 n0_0, .slice (some ⟨b2, 0, none⟩) n0_1 n0_1] := hF 0 (by rfl)
    obtain rfl := f0
    have f2 : v2 = .agg #[.int .i64 a1_0, .int .i64 a1_1, .int .i64 a1_2, .int .i64 a1_3] := hF 2 (by rfl)
    obtain rfl := f2
    have f3 : v3 = .int .i64 a2 := hF 3 (by rfl)
    obtain rfl := f3
    refine ⟨_, _, (by go_simp; first | done | exact ⟨rfl, rfl⟩ | with_reducible rfl), ?_⟩
    refine (implOrn _ _ _ _ _ _ _ z0_0 z0_1 ⟨a1_0, a1_1, a1_2, a1_3⟩ a2 w (e12 _ s0) (e13 _ s0) (Nat.le_refl _) hN0_0 hN0_1 f0_0 wx2 ((M4.trans s0).cellAt hg)).mono ?_
    rintro e w' ⟨A, N, C, rfl, hc, ow0, bm⟩; have mm := Mk.of_below bm; have ow := ow0.toR (Nat.le_refl _)
    exact ⟨_, g, rfl, ⟨⟨s0.trans mm, mm.cellAt s1, mm.cellAt s2, mm.cellAt s3, mm.cellAt s4, mm.cellAt s5, mm.cellAt s6, mm.cellAt s7, mm.cellAt s8⟩, hB.mk0 mm⟩, BxX.same mm, ⟨A, N, C, w.heap.size, w'.heap.size, rfl, hc, s0.size, mm.size, Nat.le_refl _, ow, BxA.of hB⟩⟩
  try simp only [Act.put, List.getElem_toArray, List.getElem_cons_succ, List.getElem_cons_zero, List.setIfInBounds_toArray, List.set_cons_zero, List.set_cons_succ]
  refine WkG.done fun gE w5 hE hF => ?_
  clear k0_0 k0_1 k1_0 k1_1 k1_2 k1_3 xx0_0 xx0_1
  obtain ⟨⟨m5, k0_0, k0_1, k1_0, k1_1, k1_2, k1_3, xx0_0, xx0_1⟩, hBE⟩ := hE
  change wpAny _ _ _ _ 1 _ _ _
  have f4 : ∃ A N C lo hi, v4 = .slice A N C ∧ (A = none → C = 0) ∧ w4.heap.size ≤ lo ∧ lo ≤ hi ∧ hi ≤ w5.heap.size ∧ OwnR 1 (icell .i64) w5 lo hi A N (pickI (ornF z0_0 n0_0 z0_1 n0_1 ⟨a1_0, a1_1, a1_2, a1_3⟩ a2) 6) ∧ BxA gE lo hi := hF 4 (by decide)
  obtain ⟨Ag0, Ng0, Cg0, log0, hig0, rfl, hcg0, hlg0, hmg0, hhg0, og0, hAg0⟩ := f4
  clear hF
  refine wpAny_ready (rs := [5]) (by kernel_rfl) (by simp) ?_
  refine (AllReady.cons rfl (fun K hK => ?_) AllReady.nil)
  go_simp
  refine hK _ _ ?_
  clear hK K
  try simp only [Act.put, List.getElem_toArray, List.getElem_cons_succ, List.getElem_cons_zero, List.setIfInBounds_toArray, List.set_cons_zero, List.set_cons_succ]
  clear hAg0 hBE
  refine wpAny_doneN (by kernel_rfl) ?_
  refine ‹∀ (a : Act) (w : World), _ → _› _ _ ?_
  clear e12 e13 hN0_0 hN0_1 yr5_0 yr5_1 yr5_2
  obtain rfl : Nw0 = Ng0 := ow0.1.symm.trans og0.1
  replace h8 := h8.mk m5 (by omega) (.inr (Nat.le_refl _))
  replace h9 := h9.mk m5 (by omega) (.inr (Nat.le_refl _))
  replace o4 := o4.mk m5 (by omega) (.inr (.inr (Nat.le_refl _)))
  replace o5 := o5.mk m5 (by omega) (.inr (.inr (Nat.le_refl _)))
  replace ow0 := ow0.mk m5 (by omega) (.inr (.inr (Nat.le_refl _)))
  have M5 := M4.trans m5
  have z5 := m5.size
  go_wp2_with fail
  refine (eqInt _ _ _ _ _ _ _ _ _ (hasR_int.1 og0.has) (hasR_int.1 ow0.has) hbw0).mono ?_
  rintro e w6 ⟨rfl, mm6, hw6⟩
  have m6 : Mk0 w5 w6 := by rw [hw6]; exact Mk.drewN _ _
  clear hw6
  have M6 := M5.trans m6
  have z6 := m6.size
  replace k0_0 := m6.cellAt k0_0
  replace k0_1 := m6.cellAt k0_1
  replace k1_0 := m6.cellAt k1_0
  replace k1_1 := m6.cellAt k1_1
  replace k1_2 := m6.cellAt k1_2
  replace k1_3 := m6.cellAt k1_3
  replace xx0_0 := m6.cellAt xx0_0
  replace xx0_1 := m6.cellAt xx0_1
  replace h8 := h8.mk m6 (by omega) (.inr (Nat.le_refl _))
  replace h9 := h9.mk m6 (by omega) (.inr (Nat.le_refl _))
  replace o4 := o4.mk m6 (by omega) (.inr (.inr (Nat.le_refl _)))
  replace o5 := o5.mk m6 (by omega) (.inr (.inr (Nat.le_refl _)))
  replace ow0 := ow0.mk m6 (by omega) (.inr (.inr (Nat.le_refl _)))
  replace og0 := og0.mk m6 (by omega) (.inr (.inr (Nat.le_refl _)))
  go_wp2_with fail
  have e14 : ∀ w', Mk0 w6 w' → HasAS w' w3.heap.size (some ⟨b1, 0, none⟩) n0_0 z0_0 := fun w' m => h8.mk m (by omega) (.inr (Nat.le_refl _))
  have e15 : ∀ w', Mk0 w6 w' → HasLink w' w3.heap.size (some ⟨b2, 0, none⟩) n0_1 z0_1 := fun w' m => h9.mk m (by omega) (.inr (Nat.le_refl _))
  have e16 : ∀ w', Mk0 w6 w' → w3.heap.size ≤ w'.heap.size := fun w' m => Nat.le_trans (by omega) m.size
  have e17 : ∀ w', Mk0 w6 w' → HasAS w' w.heap.size a0_0 n0_0 z0_0 := fun w' m => h0_0.mk (M6.trans m) (Nat.le_refl _) (.inr (Nat.le_refl _))
  have e18 : ∀ w', Mk0 w6 w' → HasLink w' w.heap.size a0_1 n0_1 z0_1 := fun w' m => h0_1.mk (M6.trans m) (Nat.le_refl _) (.inr (Nat.le_refl _))
  have hN0_0 : n0_0 ≤ 1048576 := by omega
  have hN0_1 : n0_1 ≤ 1048576 := by omega
  go_region_held3 (fun w' => Mk0 w6 w' ∧ w'.cell? ⟨w.heap.size, 0, none⟩ = some (.slice a0_0 n0_0 c0_0) ∧ w'.cell? ⟨w.heap.size, 1, none⟩ = some (.slice a0_1 n0_1 c0_1) ∧ w'.cell? ⟨w.heap.size + 1, 0, none⟩ = some (.int .i64 a1_0) ∧ w'.cell? ⟨w.heap.size + 1, 1, none⟩ = some (.int .i64 a1_1) ∧ w'.cell? ⟨w.heap.size + 1, 2, none⟩ = some (.int .i64 a1_2) ∧ w'.cell? ⟨w.heap.size + 1, 3, none⟩ = some (.int .i64 a1_3) ∧ w'.cell? ⟨w3.heap.size, 0, none⟩ = some (.slice (some ⟨b1, 0, none⟩) n0_0 n0_0) ∧ w'.cell? ⟨w3.heap.size, 1, none⟩ = some (.slice (some ⟨b2, 0, none⟩) n0_1 n0_1)) (first | exact ⟨Mk.drew1 _, k0_0, k0_1, k1_0, k1_1, k1_2, k1_3, xx0_0, xx0_1⟩ | (obtain ⟨s0, s1, s2, s3, s4, s5, s6, s7, s8⟩ := ‹Mk0 w6 _ ∧ _›; exact ⟨s0.trans mm, mm.cellAt s1, mm.cellAt s2, mm.cellAt s3, mm.cellAt s4, mm.cellAt s5, mm.cellAt s6, mm.cellAt s7, mm.cellAt s8⟩)) (first | (go_at_call 10; refine (toTopologyC _ _ _ _ _ _ _ _ w.heap.size _ (e17 _ (‹Mk0 w6 _ ∧ _›).1) (e18 _ (‹Mk0 w6 _ ∧ _›).1) (M6.trans (‹Mk0 w6 _ ∧ _›).1).size hN0_0 hN0_1).mono ?_; rintro e wa ⟨bb0, bb1, dd0, rfl, oo0, oo1, gg0, gg1, mm⟩) | (go_at_call 14; refine (eqTopologyC _ _ _ _ _ _ _ _ _ _ _ _ _ _ _ (e14 _ (‹Mk0 w6 _ ∧ _›).1) (e15 _ (‹Mk0 w6 _ ∧ _›).1) (oo0.has.mono gg1) (oo1.has.mono (Nat.le_refl _)) (e16 _ (‹Mk0 w6 _ ∧ _›).1) (Nat.le_refl _) hN0_0 hN0_1).mono ?_; rintro e wb7 ⟨rfl, mm⟩))
  obtain ⟨m7, k0_0, k0_1, k1_0, k1_1, k1_2, k1_3, xx0_0, xx0_1⟩ := ‹Mk0 w6 _ ∧ _›
  clear e14 e15 e16 e17 e18 hN0_0 hN0_1
  refine ‹∀ (a : Act) (w : World), _ → _› _ _ ?_
  have M7 := M6.trans m7
  have z7 := m7.size
  replace h8 := h8.mk m7 (by omega) (.inr (Nat.le_refl _))
  replace h9 := h9.mk m7 (by omega) (.inr (Nat.le_refl _))
  replace o4 := o4.mk m7 (by omega) (.inr (.inr (Nat.le_refl _)))
  replace o5 := o5.mk m7 (by omega) (.inr (.inr (Nat.le_refl _)))
  replace ow0 := ow0.mk m7 (by omega) (.inr (.inr (Nat.le_refl _)))
  replace og0 := og0.mk m7 (by omega) (.inr (.inr (Nat.le_refl _)))
  go_wp2_with fail
  refine (markTopologyC _ _ _ _ _ _ _ _ w2.heap.size d3 w3.heap.size _ _ o4 o5 (by omega) (by omega) (by omega) (by omega) (by omega) (by omega) (by omega)).mono ?_
  rintro e w8 ⟨l8, hl8, rfl, m8⟩
  have M8 := M7.andR m8 (.inl (by omega))
  have z8 := m8.size
  replace k0_0 := m8.cellAtR k0_0 (by omega)
  replace k0_1 := m8.cellAtR k0_1 (by omega)
  replace k1_0 := m8.cellAtR k1_0 (by omega)
  replace k1_1 := m8.cellAtR k1_1 (by omega)
  replace k1_2 := m8.cellAtR k1_2 (by omega)
  replace k1_3 := m8.cellAtR k1_3 (by omega)
  replace xx0_0 := m8.cellAtR xx0_0 (by omega)
  replace xx0_1 := m8.cellAtR xx0_1 (by omega)
  replace ow0 := ow0.mk m8 (by omega) (by omega)
  replace og0 := og0.mk m8 (by omega) (by omega)
  go_wp2_with fail
  refine (eqInt _ _ _ _ _ _ _ _ _ (hasR_int.1 og0.has) (hasR_int.1 ow0.has) hbw0).mono ?_
  rintro e w9 ⟨rfl, mm9, hw9⟩
  have m9 : Mk0 w8 w9 := by rw [hw9]; exact Mk.drewN _ _
  clear hw9
  have M9 := M8.trans m9
  have z9 := m9.size
  replace k0_0 := m9.cellAt k0_0
  replace k0_1 := m9.cellAt k0_1
  replace k1_0 := m9.cellAt k1_0
  replace k1_1 := m9.cellAt k1_1
  replace k1_2 := m9.cellAt k1_2
  replace k1_3 := m9.cellAt k1_3
  replace xx0_0 := m9.cellAt xx0_0
  replace xx0_1 := m9.cellAt xx0_1
  replace ow0 := ow0.mk m9 (by omega) (.inr (.inr (Nat.le_refl _)))
  replace og0 := og0.mk m9 (by omega) (.inr (.inr (Nat.le_refl _)))
  go_wp2_with fail
  refine (markInt _ _ _ log0 _ _ _ (og0.int (by omega)) hbw0 (by omega) (by omega)).mono ?_
  rintro e w10 ⟨rfl, oo10, gg10⟩
  have m10 : Mk log0 hig0 w9 w10 := Mk.of_grown gg10 og0.row
  replace og0 := Own.toR_far og0 oo10
  clear oo10 gg10
  have M10 := M9.andR m10 (.inl (by omega))
  have z10 := m10.size
  replace k0_0 := m10.cellAtR k0_0 (by omega)
  replace k0_1 := m10.cellAtR k0_1 (by omega)
  replace k1_0 := m10.cellAtR k1_0 (by omega)
  replace k1_1 := m10.cellAtR k1_1 (by omega)
  replace k1_2 := m10.cellAtR k1_2 (by omega)
  replace k1_3 := m10.cellAtR k1_3 (by omega)
  replace xx0_0 := m10.cellAtR xx0_0 (by omega)
  replace xx0_1 := m10.cellAtR xx0_1 (by omega)
  replace ow0 := ow0.mk m10 (by omega) (by omega)
  go_wp2_with fail
  refine (heldInt _ _ _ _ _ _ (hasR_int.1 og0.has) hbw0 (by omega) (by omega)).mono ?_
  rintro e w' ⟨rfl, rfl⟩
  go_wp2_with fail
  have yr11_0 : w.heap.size < w10.heap.size := by omega
  have yr11_1 : w.heap.size + 1 < w10.heap.size := by omega
  have yr11_2 : w3.heap.size < w10.heap.size := by omega
  have hN0_0 : n0_0 ≤ 1048576 := by omega
  have hN0_1 : n0_1 ≤ 1048576 := by omega
  refine wp_region_fg (fun (g : Bxs) w' => (Mk0 w10 w' ∧ w'.cell? ⟨w.heap.size, 0, none⟩ = some (.slice a0_0 n0_0 c0_0) ∧ w'.cell? ⟨w.heap.size, 1, none⟩ = some (.slice a0_1 n0_1 c0_1) ∧ w'.cell? ⟨w.heap.size + 1, 0, none⟩ = some (.int .i64 a1_0) ∧ w'.cell? ⟨w.heap.size + 1, 1, none⟩ = some (.int .i64 a1_1) ∧ w'.cell? ⟨w.heap.size + 1, 2, none⟩ = some (.int .i64 a1_2) ∧ w'.cell? ⟨w.heap.size + 1, 3, none⟩ = some (.int .i64 a1_3) ∧ w'.cell? ⟨w3.heap.size, 0, none⟩ = some (.slice (some ⟨b1, 0, none⟩) n0_0 n0_0) ∧ w'.cell? ⟨w3.heap.size, 1, none⟩ = some (.slice (some ⟨b2, 0, none⟩) n0_1 n0_1)) ∧ BxS w10.heap.size g w') (fgF [fun g v w => v = .agg #[.slice a0_0 n0_0 c0_0, .slice a0_1 n0_1 c0_1], fun g v w => ∃ b0_0 b0_1, v = .agg #[.slice (some ⟨b0_0, 0, none⟩) n0_0 n0_0, .slice (some ⟨b0_1, 0, none⟩) n0_1 n0_1] ∧ HasAS w w.heap.size (some ⟨b0_0, 0, none⟩) n0_0 z0_0 ∧ HasLink w w.heap.size (some ⟨b0_1, 0, none⟩) n0_1 z0_1, fun g v w => v = .agg #[.int .i64 a1_0, .int .i64 a1_1, .int .i64 a1_2, .int .i64 a1_3], fun g v w => v = .agg #[.int .i64 a1_0, .int .i64 a1_1, .int .i64 a1_2, .int .i64 a1_3], fun g v w => v = .int .i64 a2, fun g v w => ∃ A N C lo hi, v = .slice A N C ∧ (A = none → C = 0) ∧ w10.heap.size ≤ lo ∧ lo ≤ hi ∧ hi ≤ w.heap.size ∧ OwnR 1 (icell .i64) w lo hi A N (pickI (ornF z0_0 n0_0 z0_1 n0_1 ⟨a1_0, a1_1, a1_2, a1_3⟩ a2) 6) ∧ BxA g lo hi]) BxX (fun _ _ => False) 7 6 (by kernel_rfl) (by kernel_rfl) (by decide) (by decide) (by kernel_rfl) (fun h => absurd h (by decide)) (fgM_mono ⟨fun g g' v w w' h x => h, fun g g' v w w' h x => (by obtain ⟨b0_0, b0_1, h1, r0_0, r0_1⟩ := h; exact ⟨_, _, h1, (r0_0.mk x.far (Nat.le_refl _) (.inr (Nat.le_refl _))).mono x.far.size, (r0_1.mk x.far (Nat.le_refl _) (.inr (Nat.le_refl _))).mono x.far.size⟩), fun g g' v w w' h x => h, fun g g' v w w' h x => h, fun g g' v w w' h x => h, fun g g' v w w' h x => (by obtain ⟨A, N, C, lo, hi, h1, h2, h3, h4, h5, h6, h7⟩ := h; exact ⟨A, N, C, lo, hi, h1, h2, h3, h4, Nat.le_trans h5 x.far.size, h6.mk x.far h5 (.inr (.inr (Nat.le_refl _))), h7.step x h5⟩), trivial⟩) ⟨⟨Mk.drew1 _, k0_0, k0_1, k1_0, k1_1, k1_2, k1_3, xx0_0, xx0_1⟩, BxS.none_ _ _⟩ ?_
  change WkG _ _ _ _ _ _ 7 6 6 0 _
  refine WkG.value (m := 5) (k := 0) (by decide) rfl rfl (of_decide_eq_true (by rfl)) rfl (fun g w hS hF => ?_) (fun v0 => ?_)
  · obtain ⟨⟨s0, s1, s2, s3, s4, s5, s6, s7, s8⟩, hB⟩ := hS
    exact ⟨.agg #[.slice a0_0 n0_0 c0_0, .slice a0_1 n0_1 c0_1], w, g, (by go_simp; try with_reducible rfl), ⟨⟨s0, s1, s2, s3, s4, s5, s6, s7, s8⟩, hB⟩, BxX.same (Mk.refl _ _ _), rfl⟩
  try simp only [Act.put, List.getElem_toArray, List.getElem_cons_zero, List.setIfInBounds_toArray, List.set_cons_zero, List.set_cons_succ]
  refine WkG.call (m := 4) (k := 1) (by decide) rfl rfl (of_decide_eq_true (by rfl)) rfl (fun g w hS hF => ?_) (fun v1 => ?_)
  · obtain ⟨⟨s0, s1, s2, s3, s4, s5, s6, s7, s8⟩, hB⟩ := hS
    have f0 : v0 = .agg #[.slice a0_0 n0_0 c0_0, .slice a0_1 n0_1 c0_1] := hF 0 (by rfl)
    obtain rfl := f0
    refine ⟨_, _, (by go_simp; first | done | exact ⟨rfl, rfl⟩ | with_reducible rfl), ?_⟩
    refine (toTopologyC a0_0 n0_0 c0_0 z0_0 a0_1 n0_1 c0_1 z0_1 _ w (h0_0.mk (M10.trans s0) (Nat.le_refl _) (.inr (Nat.le_refl _))) (h0_1.mk (M10.trans s0) (Nat.le_refl _) (.inr (Nat.le_refl _))) (M10.trans s0).size hN0_0 hN0_1).mono ?_
    rintro e w' ⟨b0_0, b0_1, d0, rfl, o0, o1, g0, g1, mm⟩
    exact ⟨_, g, rfl, ⟨⟨s0.trans mm, mm.cellAt s1, mm.cellAt s2, mm.cellAt s3, mm.cellAt s4, mm.cellAt s5, mm.cellAt s6, mm.cellAt s7, mm.cellAt s8⟩, hB.mk0 mm⟩, BxX.same mm, ⟨_, _, rfl, o0.has.mono g1, o1.has.mono (Nat.le_refl _)⟩⟩
  try simp only [Act.put, List.getElem_toArray, List.getElem_cons_succ, List.getElem_cons_zero, List.setIfInBounds_toArray, List.set_cons_zero, List.set_cons_succ]
  refine WkG.value (m := 3) (k := 2) (by decide) rfl rfl (of_decide_eq_true (by rfl)) rfl (fun g w hS hF => ?_) (fun v2 => ?_)
  · obtain ⟨⟨s0, s1, s2, s3, s4, s5, s6, s7, s8⟩, hB⟩ := hS
    exact ⟨.agg #[.int .i64 a1_0, .int .i64 a1_1, .int .i64 a1_2, .int .i64 a1_3], w, g, (by go_simp; try with_reducible rfl), ⟨⟨s0, s1, s2, s3, s4, s5, s6, s7, s8⟩, hB⟩, BxX.same (Mk.refl _ _ _), rfl⟩
  try simp only [Act.put, List.getElem_toArray, List.getElem_cons_succ, List.getElem_cons_zero, List.setIfInBounds_toArray, List.set_cons_zero, List.set_cons_succ]
  refine WkG.call (m := 2) (k := 3) (by decide) rfl rfl (of_decide_eq_true (by rfl)) rfl (fun g w hS hF => ?_) (fun v3 => ?_)
  · obtain ⟨⟨s0, s1, s2, s3, s4, s5, s6, s7, s8⟩, hB⟩ := hS
    have f2 : v2 = .agg #[.int .i64 a1_0, .int .i64 a1_1, .int .i64 a1_2, .int .i64 a1_3] := hF 2 (by rfl)
    obtain rfl := f2
    refine ⟨_, _, (by go_simp; first | done | exact ⟨rfl, rfl⟩ | with_reducible rfl), ?_⟩
    refine (toPolicyI a1_0 a1_1 a1_2 a1_3 w).mono ?_
    rintro e w' ⟨rfl, mm⟩
    exact ⟨_, g, rfl, ⟨⟨s0.trans mm, mm.cellAt s1, mm.cellAt s2, mm.cellAt s3, mm.cellAt s4, mm.cellAt s5, mm.cellAt s6, mm.cellAt s7, mm.cellAt s8⟩, hB.mk0 mm⟩, BxX.same mm, rfl⟩
  try simp only [Act.put, List.getElem_toArray, List.getElem_cons_succ, List.getElem_cons_zero, List.setIfInBounds_toArray, List.set_cons_zero, List.set_cons_succ]
  refine WkG.value (m := 1) (k := 4) (by decide) rfl rfl (of_decide_eq_true (by rfl)) rfl (fun g w hS hF => ?_) (fun v4 => ?_)
  · obtain ⟨⟨s0, s1, s2, s3, s4, s5, s6, s7, s8⟩, hB⟩ := hS
    exact ⟨.int .i64 a2, w, g, (by go_simp; try with_reducible rfl), ⟨⟨s0, s1, s2, s3, s4, s5, s6, s7, s8⟩, hB⟩, BxX.same (Mk.refl _ _ _), rfl⟩
  try simp only [Act.put, List.getElem_toArray, List.getElem_cons_succ, List.getElem_cons_zero, List.setIfInBounds_toArray, List.set_cons_zero, List.set_cons_succ]
  refine WkG.call (m := 0) (k := 5) (by decide) rfl rfl (of_decide_eq_true (by rfl)) rfl (fun g w hS hF => ?_) (fun v5 => ?_)
  · obtain ⟨⟨s0, s1, s2, s3, s4, s5, s6, s7, s8⟩, hB⟩ := hS
    have f1 : ∃ b0_0 b0_1, v1 = .agg #[.slice (some ⟨b0_0, 0, none⟩) n0_0 n0_0, .slice (some ⟨b0_1, 0, none⟩) n0_1 n0_1] ∧ HasAS w w.heap.size (some ⟨b0_0, 0, none⟩) n0_0 z0_0 ∧ HasLink w w.heap.size (some ⟨b0_1, 0, none⟩) n0_1 z0_1 := hF 1 (by rfl)
    obtain ⟨b0_0, b0_1, rfl, r0_0, r0_1⟩ := f1
    have f3 : v3 = .agg #[.int .i64 a1_0, .int .i64 a1_1, .int .i64 a1_2, .int .i64 a1_3] := hF 3 (by rfl)
    obtain rfl := f3
    have f4 : v4 = .int .i64 a2 := hF 4 (by rfl)
    obtain rfl := f4
    refine ⟨_, _, (by go_simp; first | done | exact ⟨rfl, rfl⟩ | with_reducible rfl), ?_⟩
    refine (implOrn _ _ _ _ _ _ _ z0_0 z0_1 ⟨a1_0, a1_1, a1_2, a1_3⟩ a2 w r0_0 r0_1 (Nat.le_refl _) hN0_0 hN0_1 f0_0 wx2 ((M10.trans s0).cellAt hg)).mono ?_
    rintro e w' ⟨A, N, C, rfl, hc, ow0, bm⟩; have mm := Mk.of_below bm; have ow := ow0.toR (Nat.le_refl _)
    exact ⟨_, g, rfl, ⟨⟨s0.trans mm, mm.cellAt s1, mm.cellAt s2, mm.cellAt s3, mm.cellAt s4, mm.cellAt s5, mm.cellAt s6, mm.cellAt s7, mm.cellAt s8⟩, hB.mk0 mm⟩, BxX.same mm, ⟨A, N, C, w.heap.size, w'.heap.size, rfl, hc, s0.size, mm.size, Nat.le_refl _, ow, BxA.of hB⟩⟩
  try simp only [Act.put, List.getElem_toArray, List.getElem_cons_succ, List.getElem_cons_zero, List.setIfInBounds_toArray, List.set_cons_zero, List.set_cons_succ]
  refine WkG.done fun gE w11 hE hF => ?_
  clear k0_0 k0_1 k1_0 k1_1 k1_2 k1_3 xx0_0 xx0_1
  obtain ⟨⟨m11, k0_0, k0_1, k1_0, k1_1, k1_2, k1_3, xx0_0, xx0_1⟩, hBE⟩ := hE
  change wpAny _ _ _ _ 1 _ _ _
  have f5 : ∃ A N C lo hi, v5 = .slice A N C ∧ (A = none → C = 0) ∧ w10.heap.size ≤ lo ∧ lo ≤ hi ∧ hi ≤ w11.heap.size ∧ OwnR 1 (icell .i64) w11 lo hi A N (pickI (ornF z0_0 n0_0 z0_1 n0_1 ⟨a1_0, a1_1, a1_2, a1_3⟩ a2) 6) ∧ BxA gE lo hi := hF 5 (by decide)
  obtain ⟨Ah0, Nh0, Ch0, loh0, hih0, rfl, hch0, hlh0, hmh0, hhh0, oh0, hAh0⟩ := f5
  clear hF
  refine wpAny_ready (rs := [6]) (by kernel_rfl) (by simp) ?_
  refine (AllReady.cons rfl (fun K hK => ?_) AllReady.nil)
  go_simp
  refine hK _ _ ?_
  clear hK K
  try simp only [Act.put, List.getElem_toArray, List.getElem_cons_succ, List.getElem_cons_zero, List.setIfInBounds_toArray, List.set_cons_zero, List.set_cons_succ]
  clear hAh0 hBE
  refine wpAny_doneN (by kernel_rfl) ?_
  refine ‹∀ (a : Act) (w : World), _ → _› _ _ ?_
  clear hN0_0 hN0_1 yr11_0 yr11_1 yr11_2
  obtain rfl : Nw0 = Nh0 := ow0.1.symm.trans oh0.1
  replace ow0 := ow0.mk m11 (by omega) (.inr (.inr (Nat.le_refl _)))
  replace og0 := og0.mk m11 (by omega) (.inr (.inr (Nat.le_refl _)))
  have M11 := M10.trans m11
  have z11 := m11.size
  go_wp2_with fail
  refine (eqInt _ _ _ _ _ _ _ _ _ (hasR_int.1 oh0.has) (hasR_int.1 ow0.has) hbw0).mono ?_
  rintro e w12 ⟨rfl, mm12, hw12⟩
  have m12 : Mk0 w11 w12 := by rw [hw12]; exact Mk.drewN _ _
  clear hw12
  have M12 := M11.trans m12
  have z12 := m12.size
  replace k0_0 := m12.cellAt k0_0
  replace k0_1 := m12.cellAt k0_1
  replace k1_0 := m12.cellAt k1_0
  replace k1_1 := m12.cellAt k1_1
  replace k1_2 := m12.cellAt k1_2
  replace k1_3 := m12.cellAt k1_3
  replace xx0_0 := m12.cellAt xx0_0
  replace xx0_1 := m12.cellAt xx0_1
  replace ow0 := ow0.mk m12 (by omega) (.inr (.inr (Nat.le_refl _)))
  replace og0 := og0.mk m12 (by omega) (.inr (.inr (Nat.le_refl _)))
  replace oh0 := oh0.mk m12 (by omega) (.inr (.inr (Nat.le_refl _)))
  go_wp2_with fail
  refine (heldInt _ _ _ _ _ _ (hasR_int.1 og0.has) hbw0 (by omega) (by omega)).mono ?_
  rintro e w' ⟨rfl, rfl⟩
  go_wp2_with fail
  go_ret
  exact ⟨rfl, M12.below0⟩

set_option maxRecDepth 100000 in
theorem contract (H : Type) (enc : TypeId × Value → H) (W : World) (base : Nat) (args : Array Value) (ds gs : List (DataW H)) (before : List MemPlace)
    (hval0 : ∀ (j : Nat) t v, Tryz.f7.params[j]? = some t → args[j]? = some v → Value.okWide Tryz.prog W .any base t v)
    (hW : DataW.Whole enc Tryz.prog Tryz.f7.params.toList Rows.fnExactOriginInterfacesSpec.vars false W args.toList ds gs before) (hL : laidMetH Tryz.prog Rows.fnExactOriginInterfacesRow.laid W) :
    Calls Tryz.prog 7 args W fun e W' => ∃ v, e = .returned v ∧ Rows.fnExactOriginInterfacesSpec.post enc Tryz.prog Tryz.f7 false true false false W args v W' := by
  have hval : ∀ (j : Nat) t v, Tryz.f7.params[j]? = some t → args[j]? = some v → Value.okWide Tryz.prog W .any base t v := hval0
  have hW' := hW
  obtain ⟨p, q, hA0, hV, rfl, hfz, hnd⟩ := hW
  have hA : DataW.TrodAll enc Tryz.prog W 0 (fun _ => true) true Tryz.f7.params.toList args.toList ds p := hA0
  rw [Tryz.params7] at hA hval
  obtain ⟨v0, vs0, d0, ds0, p0, q0, hargs, rfl, rfl, h0, r0⟩ := trodAll_cons hA
  obtain ⟨v1, vs1, d1, ds1, p1, q1, rfl, rfl, rfl, h1, r1⟩ := trodAll_cons r0
  obtain ⟨v2, vs2, d2, ds2, p2, q2, rfl, rfl, rfl, h2, r2⟩ := trodAll_cons r1
  obtain ⟨rfl, rfl, rfl⟩ := trodAll_nil r2
  obtain rfl : args = #[v0, v1, v2] := by cases args; simp_all
  obtain ⟨rfl, rfl⟩ := trodVars_none hV
  have k0 := h0
  have lt0 : ∀ x ∈ p0, x.block < W.heap.size := by obtain ⟨m, hm⟩ := k0; exact DataW.trod_lt m _ _ _ hm
  obtain ⟨cs0, rfl, hcs0, hf0⟩ := open_agg Tryz.underlying25 (by kernel_rfl) (by kernel_rfl) (hval 0 25 v0 rfl rfl) h0
  obtain ⟨_, _, _, e0_0, q0_0⟩ := hf0 0 _ rfl
  obtain ⟨a0_0, n0_0, c0_0, z0_0, rfl, m0_0, h0_0, f0_0⟩ := openASS q0_0
  obtain ⟨_, _, _, e0_1, q0_1⟩ := hf0 1 _ rfl
  obtain ⟨a0_1, n0_1, c0_1, z0_1, rfl, m0_1, h0_1, f0_1⟩ := openLinkS q0_1
  obtain rfl : cs0 = #[.slice a0_0 n0_0 c0_0, .slice a0_1 n0_1 c0_1] := arr_of [.slice a0_0 n0_0 c0_0, .slice a0_1 n0_1 c0_1] hcs0 (fun j hj => by match j, hj with | 0, _ => exact e0_0 | 1, _ => exact e0_1)
  have k1 := h1
  have lt1 : ∀ x ∈ p1, x.block < W.heap.size := by obtain ⟨m, hm⟩ := k1; exact DataW.trod_lt m _ _ _ hm
  obtain ⟨cs1, rfl, hcs1, hf1⟩ := open_flat Tryz.underlying27 (by kernel_rfl) (by kernel_rfl) (hval 1 27 v1 rfl rfl) h1
  obtain ⟨_, e1_0, qi, _⟩ := hf1 0 _ rfl; obtain ⟨a1_0, rfl, w1_0⟩ := qi Tryz.underlying3
  obtain ⟨_, e1_1, qi, _⟩ := hf1 1 _ rfl; obtain ⟨a1_1, rfl, w1_1⟩ := qi Tryz.underlying3
  obtain ⟨_, e1_2, qi, _⟩ := hf1 2 _ rfl; obtain ⟨a1_2, rfl, w1_2⟩ := qi Tryz.underlying3
  obtain ⟨_, e1_3, qi, _⟩ := hf1 3 _ rfl; obtain ⟨a1_3, rfl, w1_3⟩ := qi Tryz.underlying3
  obtain rfl : cs1 = #[.int .i64 a1_0, .int .i64 a1_1, .int .i64 a1_2, .int .i64 a1_3] := arr_of [.int .i64 a1_0, .int .i64 a1_1, .int .i64 a1_2, .int .i64 a1_3] hcs1 (fun j hj => by match j, hj with | 0, _ => exact e1_0 | 1, _ => exact e1_1 | 2, _ => exact e1_2 | 3, _ => exact e1_3)
  obtain ⟨a2, rfl, rfl, rfl, w2⟩ := open_int Tryz.underlying3 (hval 2 3 v2 rfl rfl) h2
  clear hA0 hval0
  refine (walk a0_0 n0_0 c0_0 z0_0 a0_1 n0_1 c0_1 z0_1 a1_0 a1_1 a1_2 a1_3 a2 W h0_0 m0_0 f0_0 h0_1 m0_1 f0_1 w1_0 w1_1 w1_2 w1_3 w2 (table hL)).mono fun e W' ⟨he, bel⟩ => ?_
  subst he
  exact ⟨_, rfl, _, _, _, [], _, [], hW', trodAll_mk1 (shut_bool Tryz.underlying4 _), (trodAll_cons_mk (Below.trod laidOut (by kernel_rfl) (of_decide_eq_true (by kernel_rfl)) k0 bel lt0) (trodAll_cons_mk (Below.trod laidOut (by kernel_rfl) (of_decide_eq_true (by kernel_rfl)) k1 bel lt1) (trodAll_cons_mk (shut_int Tryz.underlying3 w2) trodAll_mk0))), rfl, bel.frame _, fun h => by cases h⟩

noncomputable def laidWorld (os : Os) : World :=
  { World.holding Tryz.prog os ⟨#[], #[], []⟩ with heap := ((World.holding Tryz.prog os ⟨#[], #[], []⟩).heap.modify 0 fun | .cells _ t frozen => .cells #[.iface 161 (.agg #[.pointer (some ⟨1, 139, none⟩)])] t frozen | o => o) }
theorem laid_met (os : Os) : laidMetH Tryz.prog Rows.fnExactOriginInterfacesRow.laid ((laidWorld os).forCall (fun _ _ => 0) ⟨#[], #[.agg #[.slice none 0 0, .slice none 0 0], .agg #[.int .i64 0, .int .i64 0, .int .i64 0, .int .i64 0], .int .i64 0], []⟩).memory :=
  laidMetH_of_parts (laidMet_nil _ _) (by kernel_rfl)
theorem reads (os : Os) {H : Type} (enc : TypeId × Value → H) : ∃ places, DataW.whole enc Tryz.prog ((laidWorld os).forCall (fun _ _ => 0) ⟨#[], #[.agg #[.slice none 0 0, .slice none 0 0], .agg #[.int .i64 0, .int .i64 0, .int .i64 0, .int .i64 0], .int .i64 0], []⟩).memory Tryz.f7.params.toList Rows.fnExactOriginInterfacesSpec.vars false #[.agg #[.slice none 0 0, .slice none 0 0], .agg #[.int .i64 0, .int .i64 0, .int .i64 0, .int .i64 0], .int .i64 0].toList 8 = some ([.agg [.nil, .nil], .agg [.lit (.int .i64 0), .lit (.int .i64 0), .lit (.int .i64 0), .lit (.int .i64 0)], .lit (.int .i64 0)], [], places) :=
  ⟨[], by kernel_rfl⟩
set_option maxRecDepth 100000 in
theorem lifted (os : Os) (started : os.Started) (H : Type) (enc : TypeId × Value → H) (F : Stop.Interp) :
    ReturnsInHanded {} Tryz.checked os 7 .any ((OpenSpec.ofChange Rows.fnExactOriginInterfacesSpec).preRow enc Tryz.prog Tryz.f7 Rows.fnExactOriginInterfacesRow.domain false Rows.fnExactOriginInterfacesRow.laid) (((OpenSpec.ofChange Rows.fnExactOriginInterfacesSpec).at F).post enc Tryz.prog Tryz.f7 false true false false) := by
  obtain ⟨places, hx⟩ := reads os enc
  refine returnsInHanded_of_row (C := Tryz.checked) (s := (OpenSpec.ofChange Rows.fnExactOriginInterfacesSpec)) own started (by kernel_rfl) Tryz.func7
    (witness_row_at (enc := enc) (C := Tryz.checked) false (laidWorld os) #[.agg #[.slice none 0 0, .slice none 0 0], .agg #[.int .i64 0, .int .i64 0, .int .i64 0, .int .i64 0], .int .i64 0] rfl (by kernel_rfl) (by kernel_rfl) (by kernel_rfl)
      (OpenSpec.preRow_of_cond 8 hx (by kernel_rfl) (fun k hk => by cases hk) (by kernel_rfl) (laid_met os))) ?_
  intro W base args ds gs before hval hW _ _ _ hL _ _
  exact contract H enc W base args ds gs before hval hW hL

theorem said : Rows.FnExactOriginInterfacesSaid :=
  OpenClaim.holds_of_cond 7 Tryz.f7 rfl rfl rfl rfl rfl rfl rfl ⟨rfl, rfl, rfl, rfl, rfl⟩ rfl rfl rfl rfl rfl (by kernel_rfl) Tryz.func7 (by kernel_rfl)
    (of_decide_eq_true (by kernel_rfl)) (by unfold Func.isWrapper; first | (rw [if_pos (by decide +kernel)]; kernel_rfl) | (rw [if_neg (by decide +kernel)]; exact ⟨rfl, rfl⟩))
    (fun os started H enc _ F => by rw [OpenClaim.pre_eq_preRow]; exact lifted os started H enc F)
theorem plain (f : FuncId) (fn : Func) (hf : Tryz.pinned.checked.prog.funcNamed "loop.example/g00505/laws.FnExactOriginInterfaces" = some f) (hfn : Tryz.pinned.checked.prog.funcs[f]? = some fn) :
    true = Tryz.pinned.checked.prog.looks [] ∧ ∀ (j : Nat) t, fn.params[j]? = some t → Tryz.pinned.checked.prog.wantsStandIn t = false := by
  obtain rfl : f = 7 := Option.some.inj ((show Tryz.prog.funcNamed "loop.example/g00505/laws.FnExactOriginInterfaces" = some 7 by kernel_rfl).symm.trans hf) |>.symm
  obtain rfl : fn = Tryz.f7 := (Option.some.inj (Tryz.func7.symm.trans hfn)).symm
  refine ⟨by kernel_rfl, fun j t ht => ?_⟩
  rw [Tryz.params7] at ht
  have ht' := Array.mem_of_getElem? ht
  simp only [List.mem_toArray, List.mem_cons, List.not_mem_nil, or_false] at ht'
  rcases ht' with rfl | rfl | rfl
  · exact (show Tryz.prog.wantsStandIn 25 = false by kernel_rfl)
  · exact (show Tryz.prog.wantsStandIn 27 = false by kernel_rfl)
  · exact (show Tryz.prog.wantsStandIn 3 = false by kernel_rfl)
theorem proved : Rows.FnExactOriginInterfacesCardSaid :=
  Claim7.holds_tied_plain_at .later [] _ _ _ _ said (fun _ h => by cases h) (by kernel_rfl) (fun _ h => by cases h) fnExactOriginInterfaces_row_tie rfl ⟨rfl, rfl⟩ (by kernel_rfl) rfl plain (by kernel_rfl)
#print axioms proved
end Go.Proofs.YtbbcpdgdihdmiaaGreatDoor.fnExactOriginInterfaces
