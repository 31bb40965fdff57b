
/- For every topology, AS and list of beacons, the law on ValidStore returns true; no further condition. -/
import Derived.Test.YtdhdkhnefnbdgaaGreatDoorCards
import Derived.Test.YtdhdkhnefnbdgaaGreatDoorTie
import Derived.Deep.DeepHandedRow
import Derived.Lib.LaidTab
import Derived.LaidHandle
import Derived.LaidLaws
import Derived.Stop.Joined
import Derived.RowKitTokens
import Derived.Test.YtdhdkhnefnbdgaaGreatDoorRows
import Derived.WalkKit
import Derived.ProofKit
import Derived.OpenShut
import Derived.ShutString
import Derived.ChangeOld
import Derived.Below
import Derived.Test.YtdhdkhnefnbdgaaGreatDoorOAS
import Derived.Test.YtdhdkhnefnbdgaaGreatDoorZAS
import Derived.Test.YtdhdkhnefnbdgaaGreatDoorOLink
import Derived.Test.YtdhdkhnefnbdgaaGreatDoorZLink
import Derived.Test.YtdhdkhnefnbdgaaGreatDoorOBeacon
import Derived.Test.YtdhdkhnefnbdgaaGreatDoorStruct
import Derived.Deep.RegionHeld3
import Derived.Test.YtdhdkhnefnbdgaaGreatDoorVst
import Derived.Test.YtdhdkhnefnbdgaaGreatDoorCTopology
import Derived.Test.YtdhdkhnefnbdgaaGreatDoorNBeacon
namespace Go.Proofs.YtdhdkhnefnbdgaaGreatDoor.fnExactValidStore
open Go.ChangeShapes Go.WideShapes Go.ChangeAt Go.RowKit
open Go.ChangeMaps (open_string shut_string)
set_option linter.unusedVariables false

theorem own : ownKnob Tryz.prog.godebug = none := by kernel_rfl
theorem laidOut : laidOutB Tryz.prog = true := by kernel_rfl

theorem etG : Tryz.prog.globalNamed "errors.errorType" = some 0 := by kernel_rfl
theorem rtT : (Tryz.prog.cutTypes.find? (·.1 == "internal/reflectlite.rtype")).map (·.2) = some 142 := by kernel_rfl
theorem oneRow : ((List.range 190).filter fun t => Tryz.prog.rowNamed t [101, 114, 114, 111, 114]) = [117] := by kernel_rfl
theorem tysize : Tryz.prog.types.size = 190 := by kernel_rfl
theorem table {W : World} (h : laidMetH Tryz.prog Rows.fnExactValidStoreRow.laid W) : W.cell? ⟨0, 0, none⟩ = some (.iface 142 (.agg #[.pointer (some ⟨1, 117, none⟩)])) := by
  have h2 : laidMet Tryz.prog [] W ∧ handlesMet Tryz.prog Rows.fnExactValidStoreRow.laid W := h
  obtain ⟨name, u, ty, e1, e2, e3, e4, e5⟩ := h2.2 _ (List.mem_singleton.2 rfl)
  have en : name = [101, 114, 114, 111, 114] := (Option.some.inj e1).symm
  subst en
  obtain rfl := Option.some.inj (rtT.symm.trans e2)
  have hm : ty ∈ (List.range 190).filter fun t => Tryz.prog.rowNamed t [101, 114, 114, 111, 114] := List.mem_filter.2 ⟨List.mem_range.2 (by rw [← tysize]; exact e3), e4⟩
  rw [oneRow] at hm
  obtain rfl := List.mem_singleton.1 hm
  have hh : typeHandle Tryz.prog 117 = .pointer (some ⟨1, 117, none⟩) := by kernel_rfl
  rw [hh] at e5
  simpa using World.var?_cell etG e5 0

set_option maxRecDepth 100000 in
set_option maxHeartbeats 4000000 in
theorem walk (a0_0 : Option Addr) (n0_0 c0_0 : Nat) (z0_0 : List TAS) (a0_1 : Option Addr) (n0_1 c0_1 : Nat) (z0_1 : List TLink) (a1 : Int) (a2_ : Option Addr) (n2_ c2_ : Nat) (z2_ : List TBeacon) (w : World) (h0_0 : HasAS w w.heap.size a0_0 n0_0 z0_0) (m0_0 : n0_0 ≤ 9223372036854775807) (f0_0 : ∀ x ∈ z0_0, TAS.fits x) (h0_1 : HasLink w w.heap.size a0_1 n0_1 z0_1) (m0_1 : n0_1 ≤ 9223372036854775807) (f0_1 : ∀ x ∈ z0_1, TLink.fits x) (w1 : (Lit.int .i64 a1).wf = true) (h2_ : HasBeacon w w.heap.size a2_ n2_ z2_) (m2_ : n2_ ≤ 9223372036854775807) (f2_ : ∀ x ∈ z2_, TBeacon.fits x) (hg : w.cell? ⟨0, 0, none⟩ = some (.iface 142 (.agg #[.pointer (some ⟨1, 117, none⟩)]))) :
    Calls Tryz.prog 4 #[.agg #[.slice a0_0 n0_0 c0_0, .slice a0_1 n0_1 c0_1], .int .i64 a1, .slice a2_ n2_ c2_] w fun e w' => e = .returned (.bool true) ∧ Below w.heap.size w w' := by
  by_cases hbig0 : (1048576 : Int) < (n0_0 : Int) + (n0_1 : Int)
  · go_enter Tryz.func4, Tryz.ntmps4
    go_wp2_with fail
    have M0 : Mk0 w (w.alloc (Obj.cells #[Value.slice a0_0 n0_0 c0_0, Value.slice a0_1 n0_1 c0_1] 25)) := (Mk.alloc w _)
    have k0_0 : (w.alloc (Obj.cells #[Value.slice a0_0 n0_0 c0_0, Value.slice a0_1 n0_1 c0_1] 25)).cell? ⟨w.heap.size, 0, none⟩ = some (.slice a0_0 n0_0 c0_0) := by simp [go_sem]
    have k0_1 : (w.alloc (Obj.cells #[Value.slice a0_0 n0_0 c0_0, Value.slice a0_1 n0_1 c0_1] 25)).cell? ⟨w.heap.size, 1, none⟩ = some (.slice a0_1 n0_1 c0_1) := by simp [go_sem]
    refine (szTopologyB _ _ _ _ _ _ _ _ (by omega) (by omega) (by omega) m0_0 m0_1).mono ?_
    rintro e w1 ⟨rfl, m1⟩
    go_wp2_with fail
    go_ret
    exact ⟨rfl, (M0.trans m1).below0⟩
  have hn0 : (n0_0 : Int) + (n0_1 : Int) ≤ (1048576 : Int) := by omega
  clear hbig0
  by_cases hbig2 : (1048576 - n0_0 - n0_1 : Int) < ((szBeacon z2_ n2_ : Nat) : Int)
  · go_enter Tryz.func4, Tryz.ntmps4
    go_wp2_with fail
    have M0 : Mk0 w (w.alloc (Obj.cells #[Value.slice a0_0 n0_0 c0_0, Value.slice a0_1 n0_1 c0_1] 25)) := (Mk.alloc w _)
    have k0_0 : (w.alloc (Obj.cells #[Value.slice a0_0 n0_0 c0_0, Value.slice a0_1 n0_1 c0_1] 25)).cell? ⟨w.heap.size, 0, none⟩ = some (.slice a0_0 n0_0 c0_0) := by simp [go_sem]
    have k0_1 : (w.alloc (Obj.cells #[Value.slice a0_0 n0_0 c0_0, Value.slice a0_1 n0_1 c0_1] 25)).cell? ⟨w.heap.size, 1, none⟩ = some (.slice a0_1 n0_1 c0_1) := by simp [go_sem]
    refine (szTopologyC _ _ _ _ _ _ _ _ (by omega) (by omega) (by omega)).mono ?_
    rintro e w1 ⟨l1, hl1, rfl, m1⟩
    have M1 := M0.trans m1
    replace k0_0 := m1.cellAt k0_0
    replace k0_1 := m1.cellAt k0_1
    have z1 := m1.size
    simp only [World.size_alloc] at z1
    go_wp2_with fail
    refine (szBeaconSB _ _ _ w.heap.size z2_ _ _ (h2_.mk M1 (Nat.le_refl _) (.inr (Nat.le_refl _))) M1.size (by omega) (by omega) (by omega) m2_).mono ?_
    rintro e w2 ⟨rfl, m2⟩
    go_wp2_with fail
    go_ret
    exact ⟨rfl, (M1.trans m2).below0⟩
  have hn2 : ((szBeacon z2_ n2_ : Nat) : Int) ≤ (1048576 - n0_0 - n0_1 : Int) := by omega
  clear hbig2
  go_enter Tryz.func4, Tryz.ntmps4
  go_wp2_with fail
  have M0 : Mk0 w (w.alloc (Obj.cells #[Value.slice a0_0 n0_0 c0_0, Value.slice a0_1 n0_1 c0_1] 25)) := (Mk.alloc w _)
  have k0_0 : (w.alloc (Obj.cells #[Value.slice a0_0 n0_0 c0_0, Value.slice a0_1 n0_1 c0_1] 25)).cell? ⟨w.heap.size, 0, none⟩ = some (.slice a0_0 n0_0 c0_0) := by simp [go_sem]
  have k0_1 : (w.alloc (Obj.cells #[Value.slice a0_0 n0_0 c0_0, Value.slice a0_1 n0_1 c0_1] 25)).cell? ⟨w.heap.size, 1, none⟩ = some (.slice a0_1 n0_1 c0_1) := by simp [go_sem]
  refine (szTopologyC _ _ _ _ _ _ _ _ (by omega) (by omega) (by omega)).mono ?_
  rintro e w1 ⟨l1, hl1, rfl, m1⟩
  have M1 := M0.trans m1
  replace k0_0 := m1.cellAt k0_0
  replace k0_1 := m1.cellAt k0_1
  have z1 := m1.size
  simp only [World.size_alloc] at z1
  go_wp2_with fail
  refine (szBeaconSC _ _ _ w.heap.size z2_ _ _ (h2_.mk M1 (Nat.le_refl _) (.inr (Nat.le_refl _))) M1.size (by omega) (by omega) (by omega)).mono ?_
  rintro e w2 ⟨l2, hl2, rfl, m2⟩
  have M2 := M1.trans m2
  have z2 := m2.size
  replace k0_0 := m2.cellAt k0_0
  replace k0_1 := m2.cellAt k0_1
  go_wp2_with fail
  refine (toTopologyC _ _ _ _ _ _ _ _ w.heap.size _ (h0_0.mk M2 (Nat.le_refl _) (.inr (Nat.le_refl _))) (h0_1.mk M2 (Nat.le_refl _) (.inr (Nat.le_refl _))) (by omega) (by omega) (by omega)).mono ?_
  rintro e w3 ⟨b1, b2, d3, rfl, o4, o5, g6, g7, m3⟩
  have M3 := M2.trans m3
  have z3 := m3.size
  replace k0_0 := m3.cellAt k0_0
  replace k0_1 := m3.cellAt k0_1
  have h8 := o4.has.mono (B' := w3.heap.size) (by omega)
  clear o4
  have h9 := o5.has.mono (B' := w3.heap.size) (by omega)
  clear o5
  go_wp2_with fail
  refine (toBeaconS _ _ _ w.heap.size _ _ (h2_.mk M3 (Nat.le_refl _) (.inr (Nat.le_refl _))) (by omega) (by omega)).mono ?_
  rintro e w4 ⟨b10, rfl, o11, m4⟩
  have M4 := M3.trans m4
  have z4 := m4.size
  replace k0_0 := m4.cellAt k0_0
  replace k0_1 := m4.cellAt k0_1
  replace h8 := h8.mk m4 (by omega) (.inr (Nat.le_refl _))
  replace h9 := h9.mk m4 (by omega) (.inr (Nat.le_refl _))
  have h12 := o11.has.mono (B' := w4.heap.size) (by omega)
  clear o11
  go_wp2_with fail
  have hN0_0 : n0_0 ≤ 1048576 := by omega
  have hN0_1 : n0_1 ≤ 1048576 := by omega
  have hN2_ : szBeacon z2_ n2_ ≤ 1048576 := by omega
  refine (specVStore _ _ _ _ _ _ _ z0_0 z0_1 a1 _ _ _ _ z2_ _ h8 h9 (by omega) hN0_0 hN0_1 h12 (by omega) hN2_ (Nat.le_refl _) f0_0 f2_).mono ?_
  rintro e w5 ⟨rfl, m5⟩
  have M5 := M4.trans m5
  have z5 := m5.size
  replace k0_0 := m5.cellAt k0_0
  replace k0_1 := m5.cellAt k0_1
  replace h8 := h8.mk m5 (by omega) (.inr (Nat.le_refl _))
  replace h9 := h9.mk m5 (by omega) (.inr (Nat.le_refl _))
  replace h12 := h12.mk m5 (by omega) (.inr (Nat.le_refl _))
  go_wp2_with fail
  refine (toTopologyC _ _ _ _ _ _ _ _ w.heap.size _ (h0_0.mk M5 (Nat.le_refl _) (.inr (Nat.le_refl _))) (h0_1.mk M5 (Nat.le_refl _) (.inr (Nat.le_refl _))) (by omega) (by omega) (by omega)).mono ?_
  rintro e w6 ⟨b13, b14, d15, rfl, o16, o17, g18, g19, m6⟩
  have M6 := M5.trans m6
  have z6 := m6.size
  replace k0_0 := m6.cellAt k0_0
  replace k0_1 := m6.cellAt k0_1
  have h20 := o16.has.mono (B' := w6.heap.size) (by omega)
  clear o16
  have h21 := o17.has.mono (B' := w6.heap.size) (by omega)
  clear o17
  go_wp2_with fail
  have xx0_0 : (w6.alloc (Obj.cells #[Value.slice (some ⟨b13, 0, none⟩) n0_0 n0_0, Value.slice (some ⟨b14, 0, none⟩) n0_1 n0_1] 35)).cell? ⟨w6.heap.size, 0, none⟩ = some (.slice (some ⟨b13, 0, none⟩) n0_0 n0_0) := by rw [World.cell?_alloc_at _ _ _ _ rfl]; rfl
  have xx0_1 : (w6.alloc (Obj.cells #[Value.slice (some ⟨b13, 0, none⟩) n0_0 n0_0, Value.slice (some ⟨b14, 0, none⟩) n0_1 n0_1] 35)).cell? ⟨w6.heap.size, 1, none⟩ = some (.slice (some ⟨b14, 0, none⟩) n0_1 n0_1) := by rw [World.cell?_alloc_at _ _ _ _ rfl]; rfl
  have m7 := Mk.alloc w6 (Obj.cells #[Value.slice (some ⟨b13, 0, none⟩) n0_0 n0_0, Value.slice (some ⟨b14, 0, none⟩) n0_1 n0_1] 35)
  replace k0_0 := m7.cellAt k0_0
  replace k0_1 := m7.cellAt k0_1
  replace h20 := h20.mk m7 (by omega) (.inr (Nat.le_refl _))
  replace h21 := h21.mk m7 (by omega) (.inr (Nat.le_refl _))
  have M7 := M6.trans m7
  have z7 := m7.size
  have zz7 : w6.heap.size < (w6.alloc (Obj.cells #[Value.slice (some ⟨b13, 0, none⟩) n0_0 n0_0, Value.slice (some ⟨b14, 0, none⟩) n0_1 n0_1] 35)).heap.size := by rw [World.size_alloc]; omega
  generalize (w6.alloc (Obj.cells #[Value.slice (some ⟨b13, 0, none⟩) n0_0 n0_0, Value.slice (some ⟨b14, 0, none⟩) n0_1 n0_1] 35)) = w7 at *
  refine (toBeaconS _ _ _ w.heap.size _ _ (h2_.mk M7 (Nat.le_refl _) (.inr (Nat.le_refl _))) (by omega) (by omega)).mono ?_
  rintro e w8 ⟨b22, rfl, o23, m8⟩
  have M8 := M7.trans m8
  have z8 := m8.size
  replace k0_0 := m8.cellAt k0_0
  replace k0_1 := m8.cellAt k0_1
  replace xx0_0 := m8.cellAt xx0_0
  replace xx0_1 := m8.cellAt xx0_1
  replace h20 := h20.mk m8 (by omega) (.inr (Nat.le_refl _))
  replace h21 := h21.mk m8 (by omega) (.inr (Nat.le_refl _))
  have h24 := o23.has.mono (B' := w8.heap.size) (by omega)
  clear o23
  go_wp2_with fail
  have hN0_0 : n0_0 ≤ 1048576 := by omega
  have hN0_1 : n0_1 ≤ 1048576 := by omega
  have hN2_ : szBeacon z2_ n2_ ≤ 1048576 := by omega
  refine (implVStore _ _ _ _ _ _ _ z0_0 z0_1 a1 _ _ _ _ z2_ _ h20 h21 (by omega) hN0_0 hN0_1 h24 (by omega) hN2_ (Nat.le_refl _) f0_0 f2_ (M8.cellAt hg)).mono ?_
  rintro e w9 ⟨rfl, m9⟩
  have M9 := M8.trans m9
  have z9 := m9.size
  replace k0_0 := m9.cellAt k0_0
  replace k0_1 := m9.cellAt k0_1
  replace xx0_0 := m9.cellAt xx0_0
  replace xx0_1 := m9.cellAt xx0_1
  replace h20 := h20.mk m9 (by omega) (.inr (Nat.le_refl _))
  replace h21 := h21.mk m9 (by omega) (.inr (Nat.le_refl _))
  replace h24 := h24.mk m9 (by omega) (.inr (Nat.le_refl _))
  go_wp2_with fail
  have e25 : ∀ w', Mk0 w9 w' → HasAS w' w6.heap.size (some ⟨b13, 0, none⟩) n0_0 z0_0 := fun w' m => h20.mk m (by omega) (.inr (Nat.le_refl _))
  have e26 : ∀ w', Mk0 w9 w' → HasLink w' w6.heap.size (some ⟨b14, 0, none⟩) n0_1 z0_1 := fun w' m => h21.mk m (by omega) (.inr (Nat.le_refl _))
  have e27 : ∀ w', Mk0 w9 w' → w6.heap.size ≤ w'.heap.size := fun w' m => Nat.le_trans (by omega) m.size
  have e28 : ∀ w', Mk0 w9 w' → HasAS w' w.heap.size a0_0 n0_0 z0_0 := fun w' m => h0_0.mk (M9.trans m) (Nat.le_refl _) (.inr (Nat.le_refl _))
  have e29 : ∀ w', Mk0 w9 w' → HasLink w' w.heap.size a0_1 n0_1 z0_1 := fun w' m => h0_1.mk (M9.trans m) (Nat.le_refl _) (.inr (Nat.le_refl _))
  have hN0_0 : n0_0 ≤ 1048576 := by omega
  have hN0_1 : n0_1 ≤ 1048576 := by omega
  go_region_held3 (fun w' => Mk0 w9 w' ∧ w'.cell? ⟨w.heap.size, 0, none⟩ = some (.slice a0_0 n0_0 c0_0) ∧ w'.cell? ⟨w.heap.size, 1, none⟩ = some (.slice a0_1 n0_1 c0_1) ∧ w'.cell? ⟨w6.heap.size, 0, none⟩ = some (.slice (some ⟨b13, 0, none⟩) n0_0 n0_0) ∧ w'.cell? ⟨w6.heap.size, 1, none⟩ = some (.slice (some ⟨b14, 0, none⟩) n0_1 n0_1)) (first | exact ⟨Mk.drew1 _, k0_0, k0_1, xx0_0, xx0_1⟩ | (obtain ⟨s0, s1, s2, s3, s4⟩ := ‹Mk0 w9 _ ∧ _›; exact ⟨s0.trans mm, mm.cellAt s1, mm.cellAt s2, mm.cellAt s3, mm.cellAt s4⟩)) (first | (go_at_call 8; refine (toTopologyC _ _ _ _ _ _ _ _ w.heap.size _ (e28 _ (‹Mk0 w9 _ ∧ _›).1) (e29 _ (‹Mk0 w9 _ ∧ _›).1) (M9.trans (‹Mk0 w9 _ ∧ _›).1).size hN0_0 hN0_1).mono ?_; rintro e wa ⟨bb0, bb1, dd0, rfl, oo0, oo1, gg0, gg1, mm⟩) | (go_at_call 11; refine (eqTopologyC _ _ _ _ _ _ _ _ _ _ _ _ _ _ _ (e25 _ (‹Mk0 w9 _ ∧ _›).1) (e26 _ (‹Mk0 w9 _ ∧ _›).1) (oo0.has.mono gg1) (oo1.has.mono (Nat.le_refl _)) (e27 _ (‹Mk0 w9 _ ∧ _›).1) (Nat.le_refl _) hN0_0 hN0_1).mono ?_; rintro e wb10 ⟨rfl, mm⟩))
  obtain ⟨m10, k0_0, k0_1, xx0_0, xx0_1⟩ := ‹Mk0 w9 _ ∧ _›
  clear e25 e26 e27 e28 e29 hN0_0 hN0_1
  refine ‹∀ (a : Act) (w : World), _ → _› _ _ ?_
  have M10 := M9.trans m10
  have z10 := m10.size
  replace h20 := h20.mk m10 (by omega) (.inr (Nat.le_refl _))
  replace h21 := h21.mk m10 (by omega) (.inr (Nat.le_refl _))
  replace h24 := h24.mk m10 (by omega) (.inr (Nat.le_refl _))
  go_wp2_with fail
  refine (toBeaconS _ _ _ w.heap.size _ _ (h2_.mk M10 (Nat.le_refl _) (.inr (Nat.le_refl _))) (by omega) (by omega)).mono ?_
  rintro e w11 ⟨b30, rfl, o31, m11⟩
  have M11 := M10.trans m11
  have z11 := m11.size
  replace k0_0 := m11.cellAt k0_0
  replace k0_1 := m11.cellAt k0_1
  replace xx0_0 := m11.cellAt xx0_0
  replace xx0_1 := m11.cellAt xx0_1
  replace h24 := h24.mk m11 (by omega) (.inr (Nat.le_refl _))
  have h32 := o31.has.mono (B' := w11.heap.size) (by omega)
  clear o31
  go_wp2_with fail
  refine (eqBeaconS _ _ _ _ _ _ _ _ _ h24 h32 (by omega) (by omega) (by omega)).mono ?_
  rintro e w12 ⟨rfl, m12⟩
  have M12 := M11.trans m12
  have z12 := m12.size
  replace k0_0 := m12.cellAt k0_0
  replace k0_1 := m12.cellAt k0_1
  replace xx0_0 := m12.cellAt xx0_0
  replace xx0_1 := m12.cellAt xx0_1
  replace h24 := h24.mk m12 (by omega) (.inr (Nat.le_refl _))
  replace h32 := h32.mk m12 (by omega) (.inr (Nat.le_refl _))
  go_wp2_with fail
  go_ret
  exact ⟨rfl, M12.below0⟩

set_option maxRecDepth 100000 in
theorem contract (H : Type) (enc : TypeId × Value → H) (W : World) (base : Nat) (args : Array Value) (ds gs : List (DataW H)) (before : List MemPlace)
    (hval0 : ∀ (j : Nat) t v, Tryz.f4.params[j]? = some t → args[j]? = some v → Value.okWide Tryz.prog W .any base t v)
    (hW : DataW.Whole enc Tryz.prog Tryz.f4.params.toList Rows.fnExactValidStoreSpec.vars false W args.toList ds gs before) (hL : laidMetH Tryz.prog Rows.fnExactValidStoreRow.laid W) :
    Calls Tryz.prog 4 args W fun e W' => ∃ v, e = .returned v ∧ Rows.fnExactValidStoreSpec.post enc Tryz.prog Tryz.f4 false true false false W args v W' := by
  have hval : ∀ (j : Nat) t v, Tryz.f4.params[j]? = some t → args[j]? = some v → Value.okWide Tryz.prog W .any base t v := hval0
  have hW' := hW
  obtain ⟨p, q, hA0, hV, rfl, hfz, hnd⟩ := hW
  have hA : DataW.TrodAll enc Tryz.prog W 0 (fun _ => true) true Tryz.f4.params.toList args.toList ds p := hA0
  rw [Tryz.params4] at hA hval
  obtain ⟨v0, vs0, d0, ds0, p0, q0, hargs, rfl, rfl, h0, r0⟩ := trodAll_cons hA
  obtain ⟨v1, vs1, d1, ds1, p1, q1, rfl, rfl, rfl, h1, r1⟩ := trodAll_cons r0
  obtain ⟨v2, vs2, d2, ds2, p2, q2, rfl, rfl, rfl, h2, r2⟩ := trodAll_cons r1
  obtain ⟨rfl, rfl, rfl⟩ := trodAll_nil r2
  obtain rfl : args = #[v0, v1, v2] := by cases args; simp_all
  obtain ⟨rfl, rfl⟩ := trodVars_none hV
  have k0 := h0
  have lt0 : ∀ x ∈ p0, x.block < W.heap.size := by obtain ⟨m, hm⟩ := k0; exact DataW.trod_lt m _ _ _ hm
  obtain ⟨cs0, rfl, hcs0, hf0⟩ := open_agg Tryz.underlying25 (by kernel_rfl) (by kernel_rfl) (hval 0 25 v0 rfl rfl) h0
  obtain ⟨_, _, _, e0_0, q0_0⟩ := hf0 0 _ rfl
  obtain ⟨a0_0, n0_0, c0_0, z0_0, rfl, m0_0, h0_0, f0_0⟩ := openASS q0_0
  obtain ⟨_, _, _, e0_1, q0_1⟩ := hf0 1 _ rfl
  obtain ⟨a0_1, n0_1, c0_1, z0_1, rfl, m0_1, h0_1, f0_1⟩ := openLinkS q0_1
  obtain rfl : cs0 = #[.slice a0_0 n0_0 c0_0, .slice a0_1 n0_1 c0_1] := arr_of [.slice a0_0 n0_0 c0_0, .slice a0_1 n0_1 c0_1] hcs0 (fun j hj => by match j, hj with | 0, _ => exact e0_0 | 1, _ => exact e0_1)
  obtain ⟨a1, rfl, rfl, rfl, w1⟩ := open_int Tryz.underlying3 (hval 1 3 v1 rfl rfl) h1
  have k2 := h2
  have lt2 : ∀ x ∈ p2, x.block < W.heap.size := by obtain ⟨m, hm⟩ := k2; exact DataW.trod_lt m _ _ _ hm
  obtain ⟨b2, l2, g2, rfl⟩ := okWide_slice Tryz.underlying44 (hval 2 44 v2 rfl rfl)
  obtain ⟨fu2, hfu2⟩ := h2
  rw [show (Value.slice b2 l2 g2).cells.toList = [.slice b2 l2 g2] from rfl] at hfu2
  obtain ⟨a2, n2, c2, z2, hv2, m2, h2, f2⟩ := openBeaconS hfu2
  injection hv2 with e1 e2 e3
  subst e1 e2 e3
  clear hA0 hval0
  refine (walk a0_0 n0_0 c0_0 z0_0 a0_1 n0_1 c0_1 z0_1 a1 b2 l2 g2 z2 W h0_0 m0_0 f0_0 h0_1 m0_1 f0_1 w1 h2 m2 f2 (table hL)).mono fun e W' ⟨he, bel⟩ => ?_
  subst he
  exact ⟨_, rfl, _, _, _, [], _, [], hW', trodAll_mk1 (shut_bool Tryz.underlying4 _), (trodAll_cons_mk (Below.trod laidOut (by kernel_rfl) (of_decide_eq_true (by kernel_rfl)) k0 bel lt0) (trodAll_cons_mk (shut_int Tryz.underlying3 w1) (trodAll_cons_mk (Below.trod laidOut (by kernel_rfl) (of_decide_eq_true (by kernel_rfl)) k2 bel lt2) trodAll_mk0))), rfl, bel.frame _, fun h => by cases h⟩

noncomputable def laidWorld (os : Os) : World :=
  { World.holding Tryz.prog os ⟨#[], #[], []⟩ with heap := ((World.holding Tryz.prog os ⟨#[], #[], []⟩).heap.modify 0 fun | .cells _ t frozen => .cells #[.iface 142 (.agg #[.pointer (some ⟨1, 117, none⟩)])] t frozen | o => o) }
theorem laid_met (os : Os) : laidMetH Tryz.prog Rows.fnExactValidStoreRow.laid ((laidWorld os).forCall (fun _ _ => 0) ⟨#[], #[.agg #[.slice none 0 0, .slice none 0 0], .int .i64 0, .slice none 0 0], []⟩).memory :=
  laidMetH_of_parts (laidMet_nil _ _) (by kernel_rfl)
theorem reads (os : Os) {H : Type} (enc : TypeId × Value → H) : ∃ places, DataW.whole enc Tryz.prog ((laidWorld os).forCall (fun _ _ => 0) ⟨#[], #[.agg #[.slice none 0 0, .slice none 0 0], .int .i64 0, .slice none 0 0], []⟩).memory Tryz.f4.params.toList Rows.fnExactValidStoreSpec.vars false #[.agg #[.slice none 0 0, .slice none 0 0], .int .i64 0, .slice none 0 0].toList 8 = some ([.agg [.nil, .nil], .lit (.int .i64 0), .nil], [], places) :=
  ⟨[], by kernel_rfl⟩
set_option maxRecDepth 100000 in
theorem lifted (os : Os) (started : os.Started) (H : Type) (enc : TypeId × Value → H) (F : Stop.Interp) :
    ReturnsInHanded {} Tryz.checked os 4 .any ((OpenSpec.ofChange Rows.fnExactValidStoreSpec).preRow enc Tryz.prog Tryz.f4 Rows.fnExactValidStoreRow.domain false Rows.fnExactValidStoreRow.laid) (((OpenSpec.ofChange Rows.fnExactValidStoreSpec).at F).post enc Tryz.prog Tryz.f4 false true false false) := by
  obtain ⟨places, hx⟩ := reads os enc
  refine returnsInHanded_of_row (C := Tryz.checked) (s := (OpenSpec.ofChange Rows.fnExactValidStoreSpec)) own started (by kernel_rfl) Tryz.func4
    (witness_row_at (enc := enc) (C := Tryz.checked) false (laidWorld os) #[.agg #[.slice none 0 0, .slice none 0 0], .int .i64 0, .slice none 0 0] rfl (by kernel_rfl) (by kernel_rfl) (by kernel_rfl)
      (OpenSpec.preRow_of_cond 8 hx (by kernel_rfl) (fun k hk => by cases hk) (by kernel_rfl) (laid_met os))) ?_
  intro W base args ds gs before hval hW _ _ _ hL _ _
  exact contract H enc W base args ds gs before hval hW hL

theorem said : Rows.FnExactValidStoreSaid :=
  OpenClaim.holds_of_cond 4 Tryz.f4 rfl rfl rfl rfl rfl rfl rfl ⟨rfl, rfl, rfl, rfl, rfl⟩ rfl rfl rfl rfl rfl (by kernel_rfl) Tryz.func4 (by kernel_rfl)
    (of_decide_eq_true (by kernel_rfl)) (by unfold Func.isWrapper; first | (rw [if_pos (by decide +kernel)]; kernel_rfl) | (rw [if_neg (by decide +kernel)]; exact ⟨rfl, rfl⟩))
    (fun os started H enc _ F => by rw [OpenClaim.pre_eq_preRow]; exact lifted os started H enc F)
theorem plain (f : FuncId) (fn : Func) (hf : Tryz.pinned.checked.prog.funcNamed "loop.example/g00505/laws.FnExactValidStore" = some f) (hfn : Tryz.pinned.checked.prog.funcs[f]? = some fn) :
    true = Tryz.pinned.checked.prog.looks [] ∧ ∀ (j : Nat) t, fn.params[j]? = some t → Tryz.pinned.checked.prog.wantsStandIn t = false := by
  obtain rfl : f = 4 := Option.some.inj ((show Tryz.prog.funcNamed "loop.example/g00505/laws.FnExactValidStore" = some 4 by kernel_rfl).symm.trans hf) |>.symm
  obtain rfl : fn = Tryz.f4 := (Option.some.inj (Tryz.func4.symm.trans hfn)).symm
  refine ⟨by kernel_rfl, fun j t ht => ?_⟩
  rw [Tryz.params4] at ht
  have ht' := Array.mem_of_getElem? ht
  simp only [List.mem_toArray, List.mem_cons, List.not_mem_nil, or_false] at ht'
  rcases ht' with rfl | rfl | rfl
  · exact (show Tryz.prog.wantsStandIn 25 = false by kernel_rfl)
  · exact (show Tryz.prog.wantsStandIn 3 = false by kernel_rfl)
  · exact (show Tryz.prog.wantsStandIn 44 = false by kernel_rfl)
theorem proved : Rows.FnExactValidStoreCardSaid :=
  Claim7.holds_tied_plain_at .later [] _ _ _ _ said (fun _ h => by cases h) (by kernel_rfl) (fun _ h => by cases h) fnExactValidStore_row_tie rfl ⟨rfl, rfl⟩ (by kernel_rfl) rfl plain (by kernel_rfl)
#print axioms proved
end Go.Proofs.YtdhdkhnefnbdgaaGreatDoor.fnExactValidStore
