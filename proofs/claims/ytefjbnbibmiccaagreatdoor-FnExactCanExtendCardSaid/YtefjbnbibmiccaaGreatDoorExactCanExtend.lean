
/- For every topology, segment, AS and interface, the law on CanExtend returns true; no further condition. -/
import Derived.Test.YtefjbnbibmiccaaGreatDoorCards
import Derived.Test.YtefjbnbibmiccaaGreatDoorTie
import Derived.Deep.DeepHandedRow
import Derived.Lib.LaidTab
import Derived.LaidHandle
import Derived.LaidLaws
import Derived.Stop.Joined
import Derived.RowKitTokens
import Derived.Test.YtefjbnbibmiccaaGreatDoorRows
import Derived.WalkKit
import Derived.ProofKit
import Derived.OpenShut
import Derived.ShutString
import Derived.ChangeOld
import Derived.Below
import Derived.Test.YtefjbnbibmiccaaGreatDoorOAS
import Derived.Test.YtefjbnbibmiccaaGreatDoorZAS
import Derived.Test.YtefjbnbibmiccaaGreatDoorOLink
import Derived.Test.YtefjbnbibmiccaaGreatDoorZLink
import Derived.Test.YtefjbnbibmiccaaGreatDoorOHop
import Derived.Test.YtefjbnbibmiccaaGreatDoorZHop
import Derived.Test.YtefjbnbibmiccaaGreatDoorStruct
import Derived.Deep.RegionHeld3
import Derived.Test.YtefjbnbibmiccaaGreatDoorCextM
import Derived.Test.YtefjbnbibmiccaaGreatDoorCTopology
import Derived.Test.YtefjbnbibmiccaaGreatDoorCSegment
namespace Go.Proofs.YtefjbnbibmiccaaGreatDoor.fnExactCanExtend
open Go.ChangeShapes Go.WideShapes Go.ChangeAt Go.RowKit
open Go.ChangeMaps (open_string shut_string)
set_option linter.unusedVariables false

theorem own : ownKnob Tryz.prog.godebug = none := by kernel_rfl
theorem laidOut : laidOutB Tryz.prog = true := by kernel_rfl

theorem etG : Tryz.prog.globalNamed "errors.errorType" = some 0 := by kernel_rfl
theorem rtT : (Tryz.prog.cutTypes.find? (·.1 == "internal/reflectlite.rtype")).map (·.2) = some 131 := by kernel_rfl
theorem oneRow : ((List.range 179).filter fun t => Tryz.prog.rowNamed t [101, 114, 114, 111, 114]) = [96] := by kernel_rfl
theorem tysize : Tryz.prog.types.size = 179 := by kernel_rfl
theorem table {W : World} (h : laidMetH Tryz.prog Rows.fnExactCanExtendRow.laid W) : W.cell? ⟨0, 0, none⟩ = some (.iface 131 (.agg #[.pointer (some ⟨1, 96, none⟩)])) := by
  have h2 : laidMet Tryz.prog [] W ∧ handlesMet Tryz.prog Rows.fnExactCanExtendRow.laid W := h
  obtain ⟨name, u, ty, e1, e2, e3, e4, e5⟩ := h2.2 _ (List.mem_singleton.2 rfl)
  have en : name = [101, 114, 114, 111, 114] := (Option.some.inj e1).symm
  subst en
  obtain rfl := Option.some.inj (rtT.symm.trans e2)
  have hm : ty ∈ (List.range 179).filter fun t => Tryz.prog.rowNamed t [101, 114, 114, 111, 114] := List.mem_filter.2 ⟨List.mem_range.2 (by rw [← tysize]; exact e3), e4⟩
  rw [oneRow] at hm
  obtain rfl := List.mem_singleton.1 hm
  have hh : typeHandle Tryz.prog 96 = .pointer (some ⟨1, 96, none⟩) := by kernel_rfl
  rw [hh] at e5
  simpa using World.var?_cell etG e5 0

set_option maxRecDepth 100000 in
set_option maxHeartbeats 4000000 in
theorem walk (a0_0 : Option Addr) (n0_0 c0_0 : Nat) (z0_0 : List TAS) (a0_1 : Option Addr) (n0_1 c0_1 : Nat) (z0_1 : List TLink) (a1_0 : Int) (a1_1 : Int) (a1_2 : Option Addr) (n1_2 c1_2 : Nat) (z1_2 : List THop) (a2 : Int) (a3 : Int) (w : World) (h0_0 : HasAS w w.heap.size a0_0 n0_0 z0_0) (m0_0 : n0_0 ≤ 9223372036854775807) (f0_0 : ∀ x ∈ z0_0, TAS.fits x) (h0_1 : HasLink w w.heap.size a0_1 n0_1 z0_1) (m0_1 : n0_1 ≤ 9223372036854775807) (f0_1 : ∀ x ∈ z0_1, TLink.fits x) (w1_0 : (Lit.int .i64 a1_0).wf = true) (w1_1 : (Lit.int .i64 a1_1).wf = true) (h1_2 : HasHop w w.heap.size a1_2 n1_2 z1_2) (m1_2 : n1_2 ≤ 9223372036854775807) (f1_2 : ∀ x ∈ z1_2, THop.fits x) (w2 : (Lit.int .i64 a2).wf = true) (w3 : (Lit.int .i64 a3).wf = true) (hg : w.cell? ⟨0, 0, none⟩ = some (.iface 131 (.agg #[.pointer (some ⟨1, 96, none⟩)]))) :
    Calls Tryz.prog 5 #[.agg #[.slice a0_0 n0_0 c0_0, .slice a0_1 n0_1 c0_1], .agg #[.int .i64 a1_0, .int .i64 a1_1, .slice a1_2 n1_2 c1_2], .int .i64 a2, .int .i64 a3] w fun e w' => e = .returned (.bool true) ∧ Below w.heap.size w w' := by
  by_cases hbig0 : (1048576 : Int) < (n0_0 : Int) + (n0_1 : Int)
  · go_enter Tryz.func5, Tryz.ntmps5
    go_wp2_with fail
    have M0 : Mk0 w ((w.alloc (Obj.cells #[Value.slice a0_0 n0_0 c0_0, Value.slice a0_1 n0_1 c0_1] 25)).alloc (Obj.cells #[Value.int .i64 a1_0, Value.int .i64 a1_1, Value.slice a1_2 n1_2 c1_2] 28)) := ((Mk.alloc w _).new _)
    have k0_0 : ((w.alloc (Obj.cells #[Value.slice a0_0 n0_0 c0_0, Value.slice a0_1 n0_1 c0_1] 25)).alloc (Obj.cells #[Value.int .i64 a1_0, Value.int .i64 a1_1, Value.slice a1_2 n1_2 c1_2] 28)).cell? ⟨w.heap.size, 0, none⟩ = some (.slice a0_0 n0_0 c0_0) := by simp [go_sem]
    have k0_1 : ((w.alloc (Obj.cells #[Value.slice a0_0 n0_0 c0_0, Value.slice a0_1 n0_1 c0_1] 25)).alloc (Obj.cells #[Value.int .i64 a1_0, Value.int .i64 a1_1, Value.slice a1_2 n1_2 c1_2] 28)).cell? ⟨w.heap.size, 1, none⟩ = some (.slice a0_1 n0_1 c0_1) := by simp [go_sem]
    have k1_0 : ((w.alloc (Obj.cells #[Value.slice a0_0 n0_0 c0_0, Value.slice a0_1 n0_1 c0_1] 25)).alloc (Obj.cells #[Value.int .i64 a1_0, Value.int .i64 a1_1, Value.slice a1_2 n1_2 c1_2] 28)).cell? ⟨w.heap.size + 1, 0, none⟩ = some (.int .i64 a1_0) := by simp [go_sem]
    have k1_1 : ((w.alloc (Obj.cells #[Value.slice a0_0 n0_0 c0_0, Value.slice a0_1 n0_1 c0_1] 25)).alloc (Obj.cells #[Value.int .i64 a1_0, Value.int .i64 a1_1, Value.slice a1_2 n1_2 c1_2] 28)).cell? ⟨w.heap.size + 1, 1, none⟩ = some (.int .i64 a1_1) := by simp [go_sem]
    have k1_2 : ((w.alloc (Obj.cells #[Value.slice a0_0 n0_0 c0_0, Value.slice a0_1 n0_1 c0_1] 25)).alloc (Obj.cells #[Value.int .i64 a1_0, Value.int .i64 a1_1, Value.slice a1_2 n1_2 c1_2] 28)).cell? ⟨w.heap.size + 1, 2, none⟩ = some (.slice a1_2 n1_2 c1_2) := by simp [go_sem]
    refine (szTopologyB _ _ _ _ _ _ _ _ (by omega) (by omega) (by omega) m0_0 m0_1).mono ?_
    rintro e w1 ⟨rfl, m1⟩
    go_wp2_with fail
    go_ret
    exact ⟨rfl, (M0.trans m1).below0⟩
  have hn0 : (n0_0 : Int) + (n0_1 : Int) ≤ (1048576 : Int) := by omega
  clear hbig0
  by_cases hbig1 : (1048576 - n0_0 - n0_1 : Int) < (n1_2 : Int)
  · go_enter Tryz.func5, Tryz.ntmps5
    go_wp2_with fail
    have M0 : Mk0 w ((w.alloc (Obj.cells #[Value.slice a0_0 n0_0 c0_0, Value.slice a0_1 n0_1 c0_1] 25)).alloc (Obj.cells #[Value.int .i64 a1_0, Value.int .i64 a1_1, Value.slice a1_2 n1_2 c1_2] 28)) := ((Mk.alloc w _).new _)
    have k0_0 : ((w.alloc (Obj.cells #[Value.slice a0_0 n0_0 c0_0, Value.slice a0_1 n0_1 c0_1] 25)).alloc (Obj.cells #[Value.int .i64 a1_0, Value.int .i64 a1_1, Value.slice a1_2 n1_2 c1_2] 28)).cell? ⟨w.heap.size, 0, none⟩ = some (.slice a0_0 n0_0 c0_0) := by simp [go_sem]
    have k0_1 : ((w.alloc (Obj.cells #[Value.slice a0_0 n0_0 c0_0, Value.slice a0_1 n0_1 c0_1] 25)).alloc (Obj.cells #[Value.int .i64 a1_0, Value.int .i64 a1_1, Value.slice a1_2 n1_2 c1_2] 28)).cell? ⟨w.heap.size, 1, none⟩ = some (.slice a0_1 n0_1 c0_1) := by simp [go_sem]
    have k1_0 : ((w.alloc (Obj.cells #[Value.slice a0_0 n0_0 c0_0, Value.slice a0_1 n0_1 c0_1] 25)).alloc (Obj.cells #[Value.int .i64 a1_0, Value.int .i64 a1_1, Value.slice a1_2 n1_2 c1_2] 28)).cell? ⟨w.heap.size + 1, 0, none⟩ = some (.int .i64 a1_0) := by simp [go_sem]
    have k1_1 : ((w.alloc (Obj.cells #[Value.slice a0_0 n0_0 c0_0, Value.slice a0_1 n0_1 c0_1] 25)).alloc (Obj.cells #[Value.int .i64 a1_0, Value.int .i64 a1_1, Value.slice a1_2 n1_2 c1_2] 28)).cell? ⟨w.heap.size + 1, 1, none⟩ = some (.int .i64 a1_1) := by simp [go_sem]
    have k1_2 : ((w.alloc (Obj.cells #[Value.slice a0_0 n0_0 c0_0, Value.slice a0_1 n0_1 c0_1] 25)).alloc (Obj.cells #[Value.int .i64 a1_0, Value.int .i64 a1_1, Value.slice a1_2 n1_2 c1_2] 28)).cell? ⟨w.heap.size + 1, 2, none⟩ = some (.slice a1_2 n1_2 c1_2) := by simp [go_sem]
    refine (szTopologyC _ _ _ _ _ _ _ _ (by omega) (by omega) (by omega)).mono ?_
    rintro e w1 ⟨l1, hl1, rfl, m1⟩
    have M1 := M0.trans m1
    replace k0_0 := m1.cellAt k0_0
    replace k0_1 := m1.cellAt k0_1
    replace k1_0 := m1.cellAt k1_0
    replace k1_1 := m1.cellAt k1_1
    replace k1_2 := m1.cellAt k1_2
    have z1 := m1.size
    simp only [World.size_alloc] at z1
    go_wp2_with fail
    refine (szSegmentB _ _ _ _ _ _ _ (by omega) (by omega) (by omega) m1_2).mono ?_
    rintro e w2 ⟨rfl, m2⟩
    go_wp2_with fail
    go_ret
    exact ⟨rfl, (M1.trans m2).below0⟩
  have hn1 : (n1_2 : Int) ≤ (1048576 - n0_0 - n0_1 : Int) := by omega
  clear hbig1
  go_enter Tryz.func5, Tryz.ntmps5
  go_wp2_with fail
  have M0 : Mk0 w ((w.alloc (Obj.cells #[Value.slice a0_0 n0_0 c0_0, Value.slice a0_1 n0_1 c0_1] 25)).alloc (Obj.cells #[Value.int .i64 a1_0, Value.int .i64 a1_1, Value.slice a1_2 n1_2 c1_2] 28)) := ((Mk.alloc w _).new _)
  have k0_0 : ((w.alloc (Obj.cells #[Value.slice a0_0 n0_0 c0_0, Value.slice a0_1 n0_1 c0_1] 25)).alloc (Obj.cells #[Value.int .i64 a1_0, Value.int .i64 a1_1, Value.slice a1_2 n1_2 c1_2] 28)).cell? ⟨w.heap.size, 0, none⟩ = some (.slice a0_0 n0_0 c0_0) := by simp [go_sem]
  have k0_1 : ((w.alloc (Obj.cells #[Value.slice a0_0 n0_0 c0_0, Value.slice a0_1 n0_1 c0_1] 25)).alloc (Obj.cells #[Value.int .i64 a1_0, Value.int .i64 a1_1, Value.slice a1_2 n1_2 c1_2] 28)).cell? ⟨w.heap.size, 1, none⟩ = some (.slice a0_1 n0_1 c0_1) := by simp [go_sem]
  have k1_0 : ((w.alloc (Obj.cells #[Value.slice a0_0 n0_0 c0_0, Value.slice a0_1 n0_1 c0_1] 25)).alloc (Obj.cells #[Value.int .i64 a1_0, Value.int .i64 a1_1, Value.slice a1_2 n1_2 c1_2] 28)).cell? ⟨w.heap.size + 1, 0, none⟩ = some (.int .i64 a1_0) := by simp [go_sem]
  have k1_1 : ((w.alloc (Obj.cells #[Value.slice a0_0 n0_0 c0_0, Value.slice a0_1 n0_1 c0_1] 25)).alloc (Obj.cells #[Value.int .i64 a1_0, Value.int .i64 a1_1, Value.slice a1_2 n1_2 c1_2] 28)).cell? ⟨w.heap.size + 1, 1, none⟩ = some (.int .i64 a1_1) := by simp [go_sem]
  have k1_2 : ((w.alloc (Obj.cells #[Value.slice a0_0 n0_0 c0_0, Value.slice a0_1 n0_1 c0_1] 25)).alloc (Obj.cells #[Value.int .i64 a1_0, Value.int .i64 a1_1, Value.slice a1_2 n1_2 c1_2] 28)).cell? ⟨w.heap.size + 1, 2, none⟩ = some (.slice a1_2 n1_2 c1_2) := by simp [go_sem]
  refine (szTopologyC _ _ _ _ _ _ _ _ (by omega) (by omega) (by omega)).mono ?_
  rintro e w1 ⟨l1, hl1, rfl, m1⟩
  have M1 := M0.trans m1
  replace k0_0 := m1.cellAt k0_0
  replace k0_1 := m1.cellAt k0_1
  replace k1_0 := m1.cellAt k1_0
  replace k1_1 := m1.cellAt k1_1
  replace k1_2 := m1.cellAt k1_2
  have z1 := m1.size
  simp only [World.size_alloc] at z1
  go_wp2_with fail
  refine (szSegmentC _ _ _ _ _ _ _ (by omega) (by omega) (by omega)).mono ?_
  rintro e w2 ⟨l2, hl2, rfl, m2⟩
  have M2 := M1.trans m2
  have z2 := m2.size
  replace k0_0 := m2.cellAt k0_0
  replace k0_1 := m2.cellAt k0_1
  replace k1_0 := m2.cellAt k1_0
  replace k1_1 := m2.cellAt k1_1
  replace k1_2 := m2.cellAt k1_2
  go_wp2_with fail
  have e1 : ∀ w', Mk0 w2 w' → HasAS w' w.heap.size a0_0 n0_0 z0_0 := fun w' m => h0_0.mk (M2.trans m) (Nat.le_refl _) (.inr (Nat.le_refl _))
  have e2 : ∀ w', Mk0 w2 w' → HasLink w' w.heap.size a0_1 n0_1 z0_1 := fun w' m => h0_1.mk (M2.trans m) (Nat.le_refl _) (.inr (Nat.le_refl _))
  have hN0_0 : n0_0 ≤ 1048576 := by omega
  have hN0_1 : n0_1 ≤ 1048576 := by omega
  have e3 : ∀ w', Mk0 w2 w' → HasHop w' w.heap.size a1_2 n1_2 z1_2 := fun w' m => h1_2.mk (M2.trans m) (Nat.le_refl _) (.inr (Nat.le_refl _))
  have hN1_2 : n1_2 ≤ 1048576 := by omega
  go_region_held3 (fun w' => Mk0 w2 w' ∧ w'.cell? ⟨w.heap.size, 0, none⟩ = some (.slice a0_0 n0_0 c0_0) ∧ w'.cell? ⟨w.heap.size, 1, none⟩ = some (.slice a0_1 n0_1 c0_1) ∧ w'.cell? ⟨w.heap.size + 1, 0, none⟩ = some (.int .i64 a1_0) ∧ w'.cell? ⟨w.heap.size + 1, 1, none⟩ = some (.int .i64 a1_1) ∧ w'.cell? ⟨w.heap.size + 1, 2, none⟩ = some (.slice a1_2 n1_2 c1_2)) (first | exact ⟨Mk.drew1 _, k0_0, k0_1, k1_0, k1_1, k1_2⟩ | (obtain ⟨s0, s1, s2, s3, s4, s5⟩ := ‹Mk0 w2 _ ∧ _›; exact ⟨s0.trans mm, mm.cellAt s1, mm.cellAt s2, mm.cellAt s3, mm.cellAt s4, mm.cellAt s5⟩)) (first | (go_at_call 9; with_reducible refine (toTopologyC a0_0 n0_0 c0_0 z0_0 a0_1 n0_1 c0_1 z0_1 w.heap.size _ (e1 _ (‹Mk0 w2 _ ∧ _›).1) (e2 _ (‹Mk0 w2 _ ∧ _›).1) (M2.trans (‹Mk0 w2 _ ∧ _›).1).size hN0_0 hN0_1).mono ?_; rintro e wc0 ⟨bc0_0, bc0_1, dc0_0, rfl, oc0_0, oc0_1, gc0_0, gc0_1, mc0⟩; have mm := mc0) | (go_at_call 10; with_reducible refine (toSegmentC a1_0 a1_1 a1_2 n1_2 c1_2 z1_2 w.heap.size _ (e3 _ (‹Mk0 w2 _ ∧ _›).1) (M2.trans (‹Mk0 w2 _ ∧ _›).1).size hN1_2).mono ?_; rintro e wc1 ⟨bc1_0, rfl, oc1_0, gc1_0, mc1⟩; have mm := mc1) | (go_at_call 16; refine (specCExt _ _ _ _ _ _ _ z0_0 z0_1 a1_0 a1_1 _ _ _ _ z1_2 a2 a3 _ (by first | exact (oc0_0.has.mono gc0_1) | exact (oc0_0.has.mono gc0_1).mk mc1 (Nat.le_refl _) (.inr (Nat.le_refl _))) (by first | exact (oc0_1.has.mono (Nat.le_refl _)) | exact (oc0_1.has.mono (Nat.le_refl _)).mk mc1 (Nat.le_refl _) (.inr (Nat.le_refl _))) (by first | exact Nat.le_refl _ | exact mc1.size) hN0_0 hN0_1 (by first | exact (oc1_0.has.mono (Nat.le_refl _)) | exact (oc1_0.has.mono (Nat.le_refl _)).mk mc0 (Nat.le_refl _) (.inr (Nat.le_refl _))) (by first | exact Nat.le_refl _ | exact mc0.size) hN1_2 f0_0 w1_0 w1_1 f1_2).mono ?_; rintro e wz3 ⟨rfl, mm⟩))
  all_goals (
    obtain ⟨m3, k0_0, k0_1, k1_0, k1_1, k1_2⟩ := ‹Mk0 w2 _ ∧ _›
    refine ‹∀ (a : Act) (w : World), _ → _› _ _ ?_
    clear e1 e2 hN0_0 hN0_1 e3 hN1_2
    have M3 := M2.trans m3
    have z3 := m3.size
    go_wp2_with fail
    refine (toTopologyC _ _ _ _ _ _ _ _ w.heap.size _ (h0_0.mk M3 (Nat.le_refl _) (.inr (Nat.le_refl _))) (h0_1.mk M3 (Nat.le_refl _) (.inr (Nat.le_refl _))) (by omega) (by omega) (by omega)).mono ?_
    rintro e w4 ⟨b4, b5, d6, rfl, o7, o8, g9, g10, m4⟩
    have M4 := M3.trans m4
    have z4 := m4.size
    replace k0_0 := m4.cellAt k0_0
    replace k0_1 := m4.cellAt k0_1
    replace k1_0 := m4.cellAt k1_0
    replace k1_1 := m4.cellAt k1_1
    replace k1_2 := m4.cellAt k1_2
    have h11 := o7.has.mono (B' := w4.heap.size) (by omega)
    clear o7
    have h12 := o8.has.mono (B' := w4.heap.size) (by omega)
    clear o8
    have yb13 : w.heap.size < w4.heap.size := by omega
    have yb14 : w.heap.size + 1 < w4.heap.size := by omega
    go_wp2_with fail
    have xx0_0 : (w4.alloc (Obj.cells #[Value.slice (some ⟨b4, 0, none⟩) n0_0 n0_0, Value.slice (some ⟨b5, 0, none⟩) n0_1 n0_1] 35)).cell? ⟨w4.heap.size, 0, none⟩ = some (.slice (some ⟨b4, 0, none⟩) n0_0 n0_0) := by rw [World.cell?_alloc_at _ _ _ _ rfl]; rfl
    have xx0_1 : (w4.alloc (Obj.cells #[Value.slice (some ⟨b4, 0, none⟩) n0_0 n0_0, Value.slice (some ⟨b5, 0, none⟩) n0_1 n0_1] 35)).cell? ⟨w4.heap.size, 1, none⟩ = some (.slice (some ⟨b5, 0, none⟩) n0_1 n0_1) := by rw [World.cell?_alloc_at _ _ _ _ rfl]; rfl
    have m5 := Mk.alloc w4 (Obj.cells #[Value.slice (some ⟨b4, 0, none⟩) n0_0 n0_0, Value.slice (some ⟨b5, 0, none⟩) n0_1 n0_1] 35)
    replace k0_0 := m5.cellAt k0_0
    replace k0_1 := m5.cellAt k0_1
    replace k1_0 := m5.cellAt k1_0
    replace k1_1 := m5.cellAt k1_1
    replace k1_2 := m5.cellAt k1_2
    replace h11 := h11.mk m5 (by omega) (.inr (Nat.le_refl _))
    replace h12 := h12.mk m5 (by omega) (.inr (Nat.le_refl _))
    have M5 := M4.trans m5
    have z5 := m5.size
    have zz5 : w4.heap.size < (w4.alloc (Obj.cells #[Value.slice (some ⟨b4, 0, none⟩) n0_0 n0_0, Value.slice (some ⟨b5, 0, none⟩) n0_1 n0_1] 35)).heap.size := by rw [World.size_alloc]; omega
    generalize (w4.alloc (Obj.cells #[Value.slice (some ⟨b4, 0, none⟩) n0_0 n0_0, Value.slice (some ⟨b5, 0, none⟩) n0_1 n0_1] 35)) = w5 at *
    refine (toSegmentC _ _ _ _ _ _ w.heap.size _ (h1_2.mk M5 (Nat.le_refl _) (.inr (Nat.le_refl _))) (by omega) (by omega)).mono ?_
    rintro e w6 ⟨b15, rfl, o16, g17, m6⟩
    have M6 := M5.trans m6
    have z6 := m6.size
    replace k0_0 := m6.cellAt k0_0
    replace k0_1 := m6.cellAt k0_1
    replace k1_0 := m6.cellAt k1_0
    replace k1_1 := m6.cellAt k1_1
    replace k1_2 := m6.cellAt k1_2
    replace xx0_0 := m6.cellAt xx0_0
    replace xx0_1 := m6.cellAt xx0_1
    replace h11 := h11.mk m6 (by omega) (.inr (Nat.le_refl _))
    replace h12 := h12.mk m6 (by omega) (.inr (Nat.le_refl _))
    have h18 := o16.has.mono (B' := w6.heap.size) (by omega)
    clear o16
    have yb19 : w.heap.size < w6.heap.size := by omega
    have yb20 : w.heap.size + 1 < w6.heap.size := by omega
    have yb21 : w4.heap.size < w6.heap.size := by omega
    go_wp2_with fail
    have xx1_0 : (w6.alloc (Obj.cells #[Value.int .i64 a1_0, Value.int .i64 a1_1, Value.slice (some ⟨b15, 0, none⟩) n1_2 n1_2] 39)).cell? ⟨w6.heap.size, 0, none⟩ = some (.int .i64 a1_0) := by rw [World.cell?_alloc_at _ _ _ _ rfl]; rfl
    have xx1_1 : (w6.alloc (Obj.cells #[Value.int .i64 a1_0, Value.int .i64 a1_1, Value.slice (some ⟨b15, 0, none⟩) n1_2 n1_2] 39)).cell? ⟨w6.heap.size, 1, none⟩ = some (.int .i64 a1_1) := by rw [World.cell?_alloc_at _ _ _ _ rfl]; rfl
    have xx1_2 : (w6.alloc (Obj.cells #[Value.int .i64 a1_0, Value.int .i64 a1_1, Value.slice (some ⟨b15, 0, none⟩) n1_2 n1_2] 39)).cell? ⟨w6.heap.size, 2, none⟩ = some (.slice (some ⟨b15, 0, none⟩) n1_2 n1_2) := by rw [World.cell?_alloc_at _ _ _ _ rfl]; rfl
    have m7 := Mk.alloc w6 (Obj.cells #[Value.int .i64 a1_0, Value.int .i64 a1_1, Value.slice (some ⟨b15, 0, none⟩) n1_2 n1_2] 39)
    replace k0_0 := m7.cellAt k0_0
    replace k0_1 := m7.cellAt k0_1
    replace k1_0 := m7.cellAt k1_0
    replace k1_1 := m7.cellAt k1_1
    replace k1_2 := m7.cellAt k1_2
    replace xx0_0 := m7.cellAt xx0_0
    replace xx0_1 := m7.cellAt xx0_1
    replace h11 := h11.mk m7 (by omega) (.inr (Nat.le_refl _))
    replace h12 := h12.mk m7 (by omega) (.inr (Nat.le_refl _))
    replace h18 := h18.mk m7 (by omega) (.inr (Nat.le_refl _))
    have M7 := M6.trans m7
    have z7 := m7.size
    have zz7 : w6.heap.size < (w6.alloc (Obj.cells #[Value.int .i64 a1_0, Value.int .i64 a1_1, Value.slice (some ⟨b15, 0, none⟩) n1_2 n1_2] 39)).heap.size := by rw [World.size_alloc]; omega
    generalize (w6.alloc (Obj.cells #[Value.int .i64 a1_0, Value.int .i64 a1_1, Value.slice (some ⟨b15, 0, none⟩) n1_2 n1_2] 39)) = w7 at *
    have hN0_0 : n0_0 ≤ 1048576 := by omega
    have hN0_1 : n0_1 ≤ 1048576 := by omega
    have hN1_2 : n1_2 ≤ 1048576 := by omega
    refine (implCExt _ _ _ _ _ _ _ z0_0 z0_1 a1_0 a1_1 _ _ _ _ z1_2 a2 a3 _ h11 h12 (by omega) hN0_0 hN0_1 h18 (by omega) hN1_2 f0_0 w1_0 w1_1 f1_2 (M7.cellAt hg)).mono ?_
    rintro e w8 ⟨rfl, m8⟩
    have M8 := M7.trans m8
    have z8 := m8.size
    replace k0_0 := m8.cellAt k0_0
    replace k0_1 := m8.cellAt k0_1
    replace k1_0 := m8.cellAt k1_0
    replace k1_1 := m8.cellAt k1_1
    replace k1_2 := m8.cellAt k1_2
    replace xx0_0 := m8.cellAt xx0_0
    replace xx0_1 := m8.cellAt xx0_1
    replace xx1_0 := m8.cellAt xx1_0
    replace xx1_1 := m8.cellAt xx1_1
    replace xx1_2 := m8.cellAt xx1_2
    replace h11 := h11.mk m8 (by omega) (.inr (Nat.le_refl _))
    replace h12 := h12.mk m8 (by omega) (.inr (Nat.le_refl _))
    replace h18 := h18.mk m8 (by omega) (.inr (Nat.le_refl _))
    go_wp2_with fail
    have e22 : ∀ w', Mk0 w8 w' → HasAS w' w4.heap.size (some ⟨b4, 0, none⟩) n0_0 z0_0 := fun w' m => h11.mk m (by omega) (.inr (Nat.le_refl _))
    have e23 : ∀ w', Mk0 w8 w' → HasLink w' w4.heap.size (some ⟨b5, 0, none⟩) n0_1 z0_1 := fun w' m => h12.mk m (by omega) (.inr (Nat.le_refl _))
    have e24 : ∀ w', Mk0 w8 w' → w4.heap.size ≤ w'.heap.size := fun w' m => Nat.le_trans (by omega) m.size
    have e25 : ∀ w', Mk0 w8 w' → HasAS w' w.heap.size a0_0 n0_0 z0_0 := fun w' m => h0_0.mk (M8.trans m) (Nat.le_refl _) (.inr (Nat.le_refl _))
    have e26 : ∀ w', Mk0 w8 w' → HasLink w' w.heap.size a0_1 n0_1 z0_1 := fun w' m => h0_1.mk (M8.trans m) (Nat.le_refl _) (.inr (Nat.le_refl _))
    have hN0_0 : n0_0 ≤ 1048576 := by omega
    have hN0_1 : n0_1 ≤ 1048576 := by omega
    go_region_held3 (fun w' => Mk0 w8 w' ∧ w'.cell? ⟨w.heap.size, 0, none⟩ = some (.slice a0_0 n0_0 c0_0) ∧ w'.cell? ⟨w.heap.size, 1, none⟩ = some (.slice a0_1 n0_1 c0_1) ∧ w'.cell? ⟨w.heap.size + 1, 0, none⟩ = some (.int .i64 a1_0) ∧ w'.cell? ⟨w.heap.size + 1, 1, none⟩ = some (.int .i64 a1_1) ∧ w'.cell? ⟨w.heap.size + 1, 2, none⟩ = some (.slice a1_2 n1_2 c1_2) ∧ w'.cell? ⟨w4.heap.size, 0, none⟩ = some (.slice (some ⟨b4, 0, none⟩) n0_0 n0_0) ∧ w'.cell? ⟨w4.heap.size, 1, none⟩ = some (.slice (some ⟨b5, 0, none⟩) n0_1 n0_1) ∧ w'.cell? ⟨w6.heap.size, 0, none⟩ = some (.int .i64 a1_0) ∧ w'.cell? ⟨w6.heap.size, 1, none⟩ = some (.int .i64 a1_1) ∧ w'.cell? ⟨w6.heap.size, 2, none⟩ = some (.slice (some ⟨b15, 0, none⟩) n1_2 n1_2)) (first | exact ⟨Mk.drew1 _, k0_0, k0_1, k1_0, k1_1, k1_2, xx0_0, xx0_1, xx1_0, xx1_1, xx1_2⟩ | (obtain ⟨s0, s1, s2, s3, s4, s5, s6, s7, s8, s9, s10⟩ := ‹Mk0 w8 _ ∧ _›; exact ⟨s0.trans mm, mm.cellAt s1, mm.cellAt s2, mm.cellAt s3, mm.cellAt s4, mm.cellAt s5, mm.cellAt s6, mm.cellAt s7, mm.cellAt s8, mm.cellAt s9, mm.cellAt s10⟩)) (first | (go_at_call 9; refine (toTopologyC _ _ _ _ _ _ _ _ w.heap.size _ (e25 _ (‹Mk0 w8 _ ∧ _›).1) (e26 _ (‹Mk0 w8 _ ∧ _›).1) (M8.trans (‹Mk0 w8 _ ∧ _›).1).size hN0_0 hN0_1).mono ?_; rintro e wa ⟨bb0, bb1, dd0, rfl, oo0, oo1, gg0, gg1, mm⟩) | (go_at_call 12; refine (eqTopologyC _ _ _ _ _ _ _ _ _ _ _ _ _ _ _ (e22 _ (‹Mk0 w8 _ ∧ _›).1) (e23 _ (‹Mk0 w8 _ ∧ _›).1) (oo0.has.mono gg1) (oo1.has.mono (Nat.le_refl _)) (e24 _ (‹Mk0 w8 _ ∧ _›).1) (Nat.le_refl _) hN0_0 hN0_1).mono ?_; rintro e wb9 ⟨rfl, mm⟩))
    obtain ⟨m9, k0_0, k0_1, k1_0, k1_1, k1_2, xx0_0, xx0_1, xx1_0, xx1_1, xx1_2⟩ := ‹Mk0 w8 _ ∧ _›
    clear e22 e23 e24 e25 e26 hN0_0 hN0_1
    refine ‹∀ (a : Act) (w : World), _ → _› _ _ ?_
    have M9 := M8.trans m9
    have z9 := m9.size
    replace h11 := h11.mk m9 (by omega) (.inr (Nat.le_refl _))
    replace h12 := h12.mk m9 (by omega) (.inr (Nat.le_refl _))
    replace h18 := h18.mk m9 (by omega) (.inr (Nat.le_refl _))
    go_wp2_with fail
    have e27 : ∀ w', Mk0 wb9 w' → HasHop w' w6.heap.size (some ⟨b15, 0, none⟩) n1_2 z1_2 := fun w' m => h18.mk m (by omega) (.inr (Nat.le_refl _))
    have e28 : ∀ w', Mk0 wb9 w' → w6.heap.size ≤ w'.heap.size := fun w' m => Nat.le_trans (by omega) m.size
    have e29 : ∀ w', Mk0 wb9 w' → HasHop w' w.heap.size a1_2 n1_2 z1_2 := fun w' m => h1_2.mk (M9.trans m) (Nat.le_refl _) (.inr (Nat.le_refl _))
    have hN1_2 : n1_2 ≤ 1048576 := by omega
    go_region_held3 (fun w' => Mk0 wb9 w' ∧ w'.cell? ⟨w.heap.size, 0, none⟩ = some (.slice a0_0 n0_0 c0_0) ∧ w'.cell? ⟨w.heap.size, 1, none⟩ = some (.slice a0_1 n0_1 c0_1) ∧ w'.cell? ⟨w.heap.size + 1, 0, none⟩ = some (.int .i64 a1_0) ∧ w'.cell? ⟨w.heap.size + 1, 1, none⟩ = some (.int .i64 a1_1) ∧ w'.cell? ⟨w.heap.size + 1, 2, none⟩ = some (.slice a1_2 n1_2 c1_2) ∧ w'.cell? ⟨w4.heap.size, 0, none⟩ = some (.slice (some ⟨b4, 0, none⟩) n0_0 n0_0) ∧ w'.cell? ⟨w4.heap.size, 1, none⟩ = some (.slice (some ⟨b5, 0, none⟩) n0_1 n0_1) ∧ w'.cell? ⟨w6.heap.size, 0, none⟩ = some (.int .i64 a1_0) ∧ w'.cell? ⟨w6.heap.size, 1, none⟩ = some (.int .i64 a1_1) ∧ w'.cell? ⟨w6.heap.size, 2, none⟩ = some (.slice (some ⟨b15, 0, none⟩) n1_2 n1_2)) (first | exact ⟨Mk.drew1 _, k0_0, k0_1, k1_0, k1_1, k1_2, xx0_0, xx0_1, xx1_0, xx1_1, xx1_2⟩ | (obtain ⟨s0, s1, s2, s3, s4, s5, s6, s7, s8, s9, s10⟩ := ‹Mk0 wb9 _ ∧ _›; exact ⟨s0.trans mm, mm.cellAt s1, mm.cellAt s2, mm.cellAt s3, mm.cellAt s4, mm.cellAt s5, mm.cellAt s6, mm.cellAt s7, mm.cellAt s8, mm.cellAt s9, mm.cellAt s10⟩)) (first | (go_at_call 10; refine (toSegmentC _ _ _ _ _ _ w.heap.size _ (e29 _ (‹Mk0 wb9 _ ∧ _›).1) (M9.trans (‹Mk0 wb9 _ ∧ _›).1).size hN1_2).mono ?_; rintro e wa ⟨bb0, rfl, oo0, gg0, mm⟩) | (go_at_call 13; refine (eqSegmentC _ _ _ _ _ _ _ _ _ _ _ (e27 _ (‹Mk0 wb9 _ ∧ _›).1) (oo0.has.mono (Nat.le_refl _)) (e28 _ (‹Mk0 wb9 _ ∧ _›).1) (Nat.le_refl _) hN1_2).mono ?_; rintro e wb10 ⟨rfl, mm⟩))
    obtain ⟨m10, k0_0, k0_1, k1_0, k1_1, k1_2, xx0_0, xx0_1, xx1_0, xx1_1, xx1_2⟩ := ‹Mk0 wb9 _ ∧ _›
    clear e27 e28 e29 hN1_2
    refine ‹∀ (a : Act) (w : World), _ → _› _ _ ?_
    have M10 := M9.trans m10
    have z10 := m10.size
    replace h18 := h18.mk m10 (by omega) (.inr (Nat.le_refl _))
    go_wp2_with fail
    go_ret
    exact ⟨rfl, M10.below0⟩)

set_option maxRecDepth 100000 in
theorem contract (H : Type) (enc : TypeId × Value → H) (W : World) (base : Nat) (args : Array Value) (ds gs : List (DataW H)) (before : List MemPlace)
    (hval0 : ∀ (j : Nat) t v, Tryz.f5.params[j]? = some t → args[j]? = some v → Value.okWide Tryz.prog W .any base t v)
    (hW : DataW.Whole enc Tryz.prog Tryz.f5.params.toList Rows.fnExactCanExtendSpec.vars false W args.toList ds gs before) (hL : laidMetH Tryz.prog Rows.fnExactCanExtendRow.laid W) :
    Calls Tryz.prog 5 args W fun e W' => ∃ v, e = .returned v ∧ Rows.fnExactCanExtendSpec.post enc Tryz.prog Tryz.f5 false true false false W args v W' := by
  have hval : ∀ (j : Nat) t v, Tryz.f5.params[j]? = some t → args[j]? = some v → Value.okWide Tryz.prog W .any base t v := hval0
  have hW' := hW
  obtain ⟨p, q, hA0, hV, rfl, hfz, hnd⟩ := hW
  have hA : DataW.TrodAll enc Tryz.prog W 0 (fun _ => true) true Tryz.f5.params.toList args.toList ds p := hA0
  rw [Tryz.params5] at hA hval
  obtain ⟨v0, vs0, d0, ds0, p0, q0, hargs, rfl, rfl, h0, r0⟩ := trodAll_cons hA
  obtain ⟨v1, vs1, d1, ds1, p1, q1, rfl, rfl, rfl, h1, r1⟩ := trodAll_cons r0
  obtain ⟨v2, vs2, d2, ds2, p2, q2, rfl, rfl, rfl, h2, r2⟩ := trodAll_cons r1
  obtain ⟨v3, vs3, d3, ds3, p3, q3, rfl, rfl, rfl, h3, r3⟩ := trodAll_cons r2
  obtain ⟨rfl, rfl, rfl⟩ := trodAll_nil r3
  obtain rfl : args = #[v0, v1, v2, v3] := by cases args; simp_all
  obtain ⟨rfl, rfl⟩ := trodVars_none hV
  have k0 := h0
  have lt0 : ∀ x ∈ p0, x.block < W.heap.size := by obtain ⟨m, hm⟩ := k0; exact DataW.trod_lt m _ _ _ hm
  obtain ⟨cs0, rfl, hcs0, hf0⟩ := open_agg Tryz.underlying25 (by kernel_rfl) (by kernel_rfl) (hval 0 25 v0 rfl rfl) h0
  obtain ⟨_, _, _, e0_0, q0_0⟩ := hf0 0 _ rfl
  obtain ⟨a0_0, n0_0, c0_0, z0_0, rfl, m0_0, h0_0, f0_0⟩ := openASS q0_0
  obtain ⟨_, _, _, e0_1, q0_1⟩ := hf0 1 _ rfl
  obtain ⟨a0_1, n0_1, c0_1, z0_1, rfl, m0_1, h0_1, f0_1⟩ := openLinkS q0_1
  obtain rfl : cs0 = #[.slice a0_0 n0_0 c0_0, .slice a0_1 n0_1 c0_1] := arr_of [.slice a0_0 n0_0 c0_0, .slice a0_1 n0_1 c0_1] hcs0 (fun j hj => by match j, hj with | 0, _ => exact e0_0 | 1, _ => exact e0_1)
  have k1 := h1
  have lt1 : ∀ x ∈ p1, x.block < W.heap.size := by obtain ⟨m, hm⟩ := k1; exact DataW.trod_lt m _ _ _ hm
  obtain ⟨cs1, rfl, hcs1, hf1⟩ := open_agg Tryz.underlying28 (by kernel_rfl) (by kernel_rfl) (hval 1 28 v1 rfl rfl) h1
  obtain ⟨_, _, _, e1_0, q1_0⟩ := hf1 0 _ rfl
  obtain ⟨a1_0, rfl, w1_0⟩ := one_int Tryz.underlying3 q1_0
  obtain ⟨_, _, _, e1_1, q1_1⟩ := hf1 1 _ rfl
  obtain ⟨a1_1, rfl, w1_1⟩ := one_int Tryz.underlying3 q1_1
  obtain ⟨_, _, _, e1_2, q1_2⟩ := hf1 2 _ rfl
  obtain ⟨a1_2, n1_2, c1_2, z1_2, rfl, m1_2, h1_2, f1_2⟩ := openHopS q1_2
  obtain rfl : cs1 = #[.int .i64 a1_0, .int .i64 a1_1, .slice a1_2 n1_2 c1_2] := arr_of [.int .i64 a1_0, .int .i64 a1_1, .slice a1_2 n1_2 c1_2] hcs1 (fun j hj => by match j, hj with | 0, _ => exact e1_0 | 1, _ => exact e1_1 | 2, _ => exact e1_2)
  obtain ⟨a2, rfl, rfl, rfl, w2⟩ := open_int Tryz.underlying3 (hval 2 3 v2 rfl rfl) h2
  obtain ⟨a3, rfl, rfl, rfl, w3⟩ := open_int Tryz.underlying3 (hval 3 3 v3 rfl rfl) h3
  clear hA0 hval0
  refine (walk a0_0 n0_0 c0_0 z0_0 a0_1 n0_1 c0_1 z0_1 a1_0 a1_1 a1_2 n1_2 c1_2 z1_2 a2 a3 W h0_0 m0_0 f0_0 h0_1 m0_1 f0_1 w1_0 w1_1 h1_2 m1_2 f1_2 w2 w3 (table hL)).mono fun e W' ⟨he, bel⟩ => ?_
  subst he
  exact ⟨_, rfl, _, _, _, [], _, [], hW', trodAll_mk1 (shut_bool Tryz.underlying4 _), (trodAll_cons_mk (Below.trod laidOut (by kernel_rfl) (of_decide_eq_true (by kernel_rfl)) k0 bel lt0) (trodAll_cons_mk (Below.trod laidOut (by kernel_rfl) (of_decide_eq_true (by kernel_rfl)) k1 bel lt1) (trodAll_cons_mk (shut_int Tryz.underlying3 w2) (trodAll_cons_mk (shut_int Tryz.underlying3 w3) trodAll_mk0)))), rfl, bel.frame _, fun h => by cases h⟩

noncomputable def laidWorld (os : Os) : World :=
  { World.holding Tryz.prog os ⟨#[], #[], []⟩ with heap := ((World.holding Tryz.prog os ⟨#[], #[], []⟩).heap.modify 0 fun | .cells _ t frozen => .cells #[.iface 131 (.agg #[.pointer (some ⟨1, 96, none⟩)])] t frozen | o => o) }
theorem laid_met (os : Os) : laidMetH Tryz.prog Rows.fnExactCanExtendRow.laid ((laidWorld os).forCall (fun _ _ => 0) ⟨#[], #[.agg #[.slice none 0 0, .slice none 0 0], .agg #[.int .i64 0, .int .i64 0, .slice none 0 0], .int .i64 0, .int .i64 0], []⟩).memory :=
  laidMetH_of_parts (laidMet_nil _ _) (by kernel_rfl)
theorem reads (os : Os) {H : Type} (enc : TypeId × Value → H) : ∃ places, DataW.whole enc Tryz.prog ((laidWorld os).forCall (fun _ _ => 0) ⟨#[], #[.agg #[.slice none 0 0, .slice none 0 0], .agg #[.int .i64 0, .int .i64 0, .slice none 0 0], .int .i64 0, .int .i64 0], []⟩).memory Tryz.f5.params.toList Rows.fnExactCanExtendSpec.vars false #[.agg #[.slice none 0 0, .slice none 0 0], .agg #[.int .i64 0, .int .i64 0, .slice none 0 0], .int .i64 0, .int .i64 0].toList 8 = some ([.agg [.nil, .nil], .agg [.lit (.int .i64 0), .lit (.int .i64 0), .nil], .lit (.int .i64 0), .lit (.int .i64 0)], [], places) :=
  ⟨[], by kernel_rfl⟩
set_option maxRecDepth 100000 in
theorem lifted (os : Os) (started : os.Started) (H : Type) (enc : TypeId × Value → H) (F : Stop.Interp) :
    ReturnsInHanded {} Tryz.checked os 5 .any ((OpenSpec.ofChange Rows.fnExactCanExtendSpec).preRow enc Tryz.prog Tryz.f5 Rows.fnExactCanExtendRow.domain false Rows.fnExactCanExtendRow.laid) (((OpenSpec.ofChange Rows.fnExactCanExtendSpec).at F).post enc Tryz.prog Tryz.f5 false true false false) := by
  obtain ⟨places, hx⟩ := reads os enc
  refine returnsInHanded_of_row (C := Tryz.checked) (s := (OpenSpec.ofChange Rows.fnExactCanExtendSpec)) own started (by kernel_rfl) Tryz.func5
    (witness_row_at (enc := enc) (C := Tryz.checked) false (laidWorld os) #[.agg #[.slice none 0 0, .slice none 0 0], .agg #[.int .i64 0, .int .i64 0, .slice none 0 0], .int .i64 0, .int .i64 0] rfl (by kernel_rfl) (by kernel_rfl) (by kernel_rfl)
      (OpenSpec.preRow_of_cond 8 hx (by kernel_rfl) (fun k hk => by cases hk) (by kernel_rfl) (laid_met os))) ?_
  intro W base args ds gs before hval hW _ _ _ hL _ _
  exact contract H enc W base args ds gs before hval hW hL

theorem said : Rows.FnExactCanExtendSaid :=
  OpenClaim.holds_of_cond 5 Tryz.f5 rfl rfl rfl rfl rfl rfl rfl ⟨rfl, rfl, rfl, rfl, rfl⟩ rfl rfl rfl rfl rfl (by kernel_rfl) Tryz.func5 (by kernel_rfl)
    (of_decide_eq_true (by kernel_rfl)) (by unfold Func.isWrapper; first | (rw [if_pos (by decide +kernel)]; kernel_rfl) | (rw [if_neg (by decide +kernel)]; exact ⟨rfl, rfl⟩))
    (fun os started H enc _ F => by rw [OpenClaim.pre_eq_preRow]; exact lifted os started H enc F)
theorem plain (f : FuncId) (fn : Func) (hf : Tryz.pinned.checked.prog.funcNamed "loop.example/g00505/laws.FnExactCanExtend" = some f) (hfn : Tryz.pinned.checked.prog.funcs[f]? = some fn) :
    true = Tryz.pinned.checked.prog.looks [] ∧ ∀ (j : Nat) t, fn.params[j]? = some t → Tryz.pinned.checked.prog.wantsStandIn t = false := by
  obtain rfl : f = 5 := Option.some.inj ((show Tryz.prog.funcNamed "loop.example/g00505/laws.FnExactCanExtend" = some 5 by kernel_rfl).symm.trans hf) |>.symm
  obtain rfl : fn = Tryz.f5 := (Option.some.inj (Tryz.func5.symm.trans hfn)).symm
  refine ⟨by kernel_rfl, fun j t ht => ?_⟩
  rw [Tryz.params5] at ht
  have ht' := Array.mem_of_getElem? ht
  simp only [List.mem_toArray, List.mem_cons, List.not_mem_nil, or_false] at ht'
  rcases ht' with rfl | rfl | rfl | rfl
  · exact (show Tryz.prog.wantsStandIn 25 = false by kernel_rfl)
  · exact (show Tryz.prog.wantsStandIn 28 = false by kernel_rfl)
  · exact (show Tryz.prog.wantsStandIn 3 = false by kernel_rfl)
  · exact (show Tryz.prog.wantsStandIn 3 = false by kernel_rfl)
theorem proved : Rows.FnExactCanExtendCardSaid :=
  Claim7.holds_tied_plain_at .later [] _ _ _ _ said (fun _ h => by cases h) (by kernel_rfl) (fun _ h => by cases h) fnExactCanExtend_row_tie rfl ⟨rfl, rfl⟩ (by kernel_rfl) rfl plain (by kernel_rfl)
#print axioms proved
end Go.Proofs.YtefjbnbibmiccaaGreatDoor.fnExactCanExtend
