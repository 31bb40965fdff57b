
/- For every topology and AS, the law on CoreComponent returns true; no further condition. -/
import Derived.Test.YtjlglppknemffaaRows
import Derived.WalkKit
import Derived.ProofKit
import Derived.OpenShut
import Derived.ShutString
import Derived.ChangeOld
import Derived.Below
import Derived.Test.YtjlglppknemffaaOAS
import Derived.Test.YtjlglppknemffaaZAS
import Derived.Test.YtjlglppknemffaaOLink
import Derived.Test.YtjlglppknemffaaZLink
import Derived.Test.YtjlglppknemffaaStruct
import Derived.Deep.RegionHeld3
import Derived.Test.YtjlglppknemffaaCc
import Derived.Test.YtjlglppknemffaaKTopology
namespace Go.Proofs.Ytjlglppknemffaa.fnExactCoreComponent
open Go.ChangeShapes Go.WideShapes Go.ChangeAt Go.RowKit
open Go.ChangeMaps (open_string shut_string)
set_option linter.unusedVariables false

theorem own : ownKnob Try.prog.godebug = none := by kernel_rfl
theorem laidOut : laidOutB Try.prog = true := by kernel_rfl

set_option maxRecDepth 100000 in
set_option maxHeartbeats 4000000 in
theorem walk (a0_0 : Option Addr) (n0_0 c0_0 : Nat) (z0_0 : List TAS) (a0_1 : Option Addr) (n0_1 c0_1 : Nat) (z0_1 : List TLink) (a1 : Int) (w : World) (h0_0 : HasAS w w.heap.size a0_0 n0_0 z0_0) (m0_0 : n0_0 ≤ 9223372036854775807) (f0_0 : ∀ x ∈ z0_0, TAS.fits x) (h0_1 : HasLink w w.heap.size a0_1 n0_1 z0_1) (m0_1 : n0_1 ≤ 9223372036854775807) (f0_1 : ∀ x ∈ z0_1, TLink.fits x) (w1 : (Lit.int .i64 a1).wf = true) :
    Calls Try.prog 12 #[.agg #[.slice a0_0 n0_0 c0_0, .slice a0_1 n0_1 c0_1], .int .i64 a1] w fun e w' => e = .returned (.bool true) ∧ Below w.heap.size w w' := by
  by_cases hbig0 : (1048576 : Int) < (n0_0 : Int) + (n0_1 : Int)
  · go_enter Try.func12, Try.ntmps12
    go_wp2_with fail
    have M0 : Mk0 w (w.alloc (Obj.cells #[Value.slice a0_0 n0_0 c0_0, Value.slice a0_1 n0_1 c0_1] 25)) := (Mk.alloc w _)
    have k0_0 : (w.alloc (Obj.cells #[Value.slice a0_0 n0_0 c0_0, Value.slice a0_1 n0_1 c0_1] 25)).cell? ⟨w.heap.size, 0, none⟩ = some (.slice a0_0 n0_0 c0_0) := by simp [go_sem]
    have k0_1 : (w.alloc (Obj.cells #[Value.slice a0_0 n0_0 c0_0, Value.slice a0_1 n0_1 c0_1] 25)).cell? ⟨w.heap.size, 1, none⟩ = some (.slice a0_1 n0_1 c0_1) := by simp [go_sem]
    refine (szTopologyB _ _ _ _ _ _ _ _ (by omega) (by omega) (by omega) m0_0 m0_1).mono ?_
    rintro e w1 ⟨rfl, m1⟩
    go_wp2_with fail
    go_ret
    exact ⟨rfl, (M0.trans m1).below0⟩
  have hn0 : (n0_0 : Int) + (n0_1 : Int) ≤ (1048576 : Int) := by omega
  clear hbig0
  go_enter Try.func12, Try.ntmps12
  go_wp2_with fail
  have M0 : Mk0 w (w.alloc (Obj.cells #[Value.slice a0_0 n0_0 c0_0, Value.slice a0_1 n0_1 c0_1] 25)) := (Mk.alloc w _)
  have k0_0 : (w.alloc (Obj.cells #[Value.slice a0_0 n0_0 c0_0, Value.slice a0_1 n0_1 c0_1] 25)).cell? ⟨w.heap.size, 0, none⟩ = some (.slice a0_0 n0_0 c0_0) := by simp [go_sem]
  have k0_1 : (w.alloc (Obj.cells #[Value.slice a0_0 n0_0 c0_0, Value.slice a0_1 n0_1 c0_1] 25)).cell? ⟨w.heap.size, 1, none⟩ = some (.slice a0_1 n0_1 c0_1) := by simp [go_sem]
  refine (szTopologyC _ _ _ _ _ _ _ _ (by omega) (by omega) (by omega)).mono ?_
  rintro e w1 ⟨l1, hl1, rfl, m1⟩
  have M1 := M0.trans m1
  replace k0_0 := m1.cellAt k0_0
  replace k0_1 := m1.cellAt k0_1
  have z1 := m1.size
  simp only [World.size_alloc] at z1
  go_wp2_with fail
  refine (toTopologyC _ _ _ _ _ _ _ _ w.heap.size _ (h0_0.mk M1 (Nat.le_refl _) (.inr (Nat.le_refl _))) (h0_1.mk M1 (Nat.le_refl _) (.inr (Nat.le_refl _))) (by omega) (by omega) (by omega)).mono ?_
  rintro e w2 ⟨b1, b2, d3, rfl, o4, o5, g6, g7, m2⟩
  have M2 := M1.trans m2
  have z2 := m2.size
  replace k0_0 := m2.cellAt k0_0
  replace k0_1 := m2.cellAt k0_1
  have h8 := o4.has.mono (B' := w2.heap.size) (by omega)
  clear o4
  have h9 := o5.has.mono (B' := w2.heap.size) (by omega)
  clear o5
  go_wp2_with fail
  refine (specCC _ _ _ _ _ _ _ z0_0 z0_1 _ _ h8 h9 (by omega) (by omega) (by omega)).mono ?_
  rintro e w3 ⟨rfl, m3⟩
  have M3 := M2.trans m3
  have z3 := m3.size
  replace k0_0 := m3.cellAt k0_0
  replace k0_1 := m3.cellAt k0_1
  replace h8 := h8.mk m3 (by omega) (.inr (Nat.le_refl _))
  replace h9 := h9.mk m3 (by omega) (.inr (Nat.le_refl _))
  go_wp2_with fail
  refine (toTopologyC _ _ _ _ _ _ _ _ w.heap.size _ (h0_0.mk M3 (Nat.le_refl _) (.inr (Nat.le_refl _))) (h0_1.mk M3 (Nat.le_refl _) (.inr (Nat.le_refl _))) (by omega) (by omega) (by omega)).mono ?_
  rintro e w4 ⟨b10, b11, d12, rfl, o13, o14, g15, g16, m4⟩
  have M4 := M3.trans m4
  have z4 := m4.size
  replace k0_0 := m4.cellAt k0_0
  replace k0_1 := m4.cellAt k0_1
  have h17 := o13.has.mono (B' := w4.heap.size) (by omega)
  clear o13
  have h18 := o14.has.mono (B' := w4.heap.size) (by omega)
  clear o14
  go_wp2_with fail
  have xx0_0 : (w4.alloc (Obj.cells #[Value.slice (some ⟨b10, 0, none⟩) n0_0 n0_0, Value.slice (some ⟨b11, 0, none⟩) n0_1 n0_1] 31)).cell? ⟨w4.heap.size, 0, none⟩ = some (.slice (some ⟨b10, 0, none⟩) n0_0 n0_0) := by rw [World.cell?_alloc_at _ _ _ _ rfl]; rfl
  have xx0_1 : (w4.alloc (Obj.cells #[Value.slice (some ⟨b10, 0, none⟩) n0_0 n0_0, Value.slice (some ⟨b11, 0, none⟩) n0_1 n0_1] 31)).cell? ⟨w4.heap.size, 1, none⟩ = some (.slice (some ⟨b11, 0, none⟩) n0_1 n0_1) := by rw [World.cell?_alloc_at _ _ _ _ rfl]; rfl
  refine (implCC _ _ _ _ _ _ _ z0_0 z0_1 _ _ (h17.mk (Mk.alloc _ _) (by omega) (.inr (Nat.le_refl _))) (h18.mk (Mk.alloc _ _) (by omega) (.inr (Nat.le_refl _))) (by rw [World.size_alloc]; omega) (by omega) (by omega)).mono ?_
  rintro e w5 ⟨rfl, m5⟩
  replace xx0_0 := m5.cellAt xx0_0
  replace xx0_1 := m5.cellAt xx0_1
  replace m5 := (Mk.alloc w4 _).trans m5
  have M5 := M4.trans m5
  have z5 := m5.size
  replace k0_0 := m5.cellAt k0_0
  replace k0_1 := m5.cellAt k0_1
  replace h17 := h17.mk m5 (by omega) (.inr (Nat.le_refl _))
  replace h18 := h18.mk m5 (by omega) (.inr (Nat.le_refl _))
  go_wp2_with fail
  have e19 : ∀ w', Mk0 w5 w' → HasAS w' w4.heap.size (some ⟨b10, 0, none⟩) n0_0 z0_0 := fun w' m => h17.mk m (by omega) (.inr (Nat.le_refl _))
  have e20 : ∀ w', Mk0 w5 w' → HasLink w' w4.heap.size (some ⟨b11, 0, none⟩) n0_1 z0_1 := fun w' m => h18.mk m (by omega) (.inr (Nat.le_refl _))
  have e21 : ∀ w', Mk0 w5 w' → w4.heap.size ≤ w'.heap.size := fun w' m => Nat.le_trans (by omega) m.size
  have e22 : ∀ w', Mk0 w5 w' → HasAS w' w.heap.size a0_0 n0_0 z0_0 := fun w' m => h0_0.mk (M5.trans m) (Nat.le_refl _) (.inr (Nat.le_refl _))
  have e23 : ∀ w', Mk0 w5 w' → HasLink w' w.heap.size a0_1 n0_1 z0_1 := fun w' m => h0_1.mk (M5.trans m) (Nat.le_refl _) (.inr (Nat.le_refl _))
  have hN0_0 : n0_0 ≤ 1048576 := by omega
  have hN0_1 : n0_1 ≤ 1048576 := by omega
  go_region_held3 (fun w' => Mk0 w5 w' ∧ w'.cell? ⟨w.heap.size, 0, none⟩ = some (.slice a0_0 n0_0 c0_0) ∧ w'.cell? ⟨w.heap.size, 1, none⟩ = some (.slice a0_1 n0_1 c0_1) ∧ w'.cell? ⟨w4.heap.size, 0, none⟩ = some (.slice (some ⟨b10, 0, none⟩) n0_0 n0_0) ∧ w'.cell? ⟨w4.heap.size, 1, none⟩ = some (.slice (some ⟨b11, 0, none⟩) n0_1 n0_1)) (first | exact ⟨Mk.drew1 _, k0_0, k0_1, xx0_0, xx0_1⟩ | (obtain ⟨s0, s1, s2, s3, s4⟩ := ‹Mk0 w5 _ ∧ _›; exact ⟨s0.trans mm, mm.cellAt s1, mm.cellAt s2, mm.cellAt s3, mm.cellAt s4⟩)) (first | (go_at_call 16; refine (toTopologyC _ _ _ _ _ _ _ _ w.heap.size _ (e22 _ (‹Mk0 w5 _ ∧ _›).1) (e23 _ (‹Mk0 w5 _ ∧ _›).1) (M5.trans (‹Mk0 w5 _ ∧ _›).1).size hN0_0 hN0_1).mono ?_; rintro e wa ⟨bb0, bb1, dd0, rfl, oo0, oo1, gg0, gg1, mm⟩) | (go_at_call 18; refine (eqTopologyC _ _ _ _ _ _ _ _ _ _ _ _ _ _ _ (e19 _ (‹Mk0 w5 _ ∧ _›).1) (e20 _ (‹Mk0 w5 _ ∧ _›).1) (oo0.has.mono gg1) (oo1.has.mono (Nat.le_refl _)) (e21 _ (‹Mk0 w5 _ ∧ _›).1) (Nat.le_refl _) hN0_0 hN0_1).mono ?_; rintro e wb6 ⟨rfl, mm⟩))
  obtain ⟨m6, k0_0, k0_1, xx0_0, xx0_1⟩ := ‹Mk0 w5 _ ∧ _›
  clear e19 e20 e21 e22 e23 hN0_0 hN0_1
  refine ‹∀ (a : Act) (w : World), _ → _› _ _ ?_
  have M6 := M5.trans m6
  have z6 := m6.size
  replace h17 := h17.mk m6 (by omega) (.inr (Nat.le_refl _))
  replace h18 := h18.mk m6 (by omega) (.inr (Nat.le_refl _))
  go_wp2_with fail
  go_ret
  exact ⟨rfl, M6.below0⟩

set_option maxRecDepth 100000 in
theorem lifted (os : Os) (started : os.Started) (H : Type) (enc : TypeId × Value → H) :
    ReturnsInHanded {} Try.checked os 12 .any (Rows.fnExactCoreComponentSpec.pre6 enc Try.prog Try.f12 Rows.fnExactCoreComponentRow.domain false) (Rows.fnExactCoreComponentSpec.post enc Try.prog Try.f12 false true false false) := by
  refine returnsInHanded_of_change (C := Try.checked) own started (by kernel_rfl) Try.func12
    (ChangeSpec.witness6 (enc := enc) (C := Try.checked) false ⟨#[], #[.agg #[.slice none 0 0, .slice none 0 0], .int .i64 0], []⟩ 8 (by kernel_rfl) (by kernel_rfl) (by kernel_rfl) (by kernel_rfl)) ?_
  intro W base args ds gs before hval0 hW hcnd _
  have hval : ∀ (j : Nat) t v, Try.f12.params[j]? = some t → args[j]? = some v → Value.okWide Try.prog W .any base t v := hval0
  have hW' := hW
  obtain ⟨p, q, hA0, hV, rfl, hfz, hnd⟩ := hW
  have hA : DataW.TrodAll enc Try.prog W 0 (fun _ => true) true Try.f12.params.toList args.toList ds p := hA0
  rw [Try.params12] at hA hval
  obtain ⟨v0, vs0, d0, ds0, p0, q0, hargs, rfl, rfl, h0, r0⟩ := trodAll_cons hA
  obtain ⟨v1, vs1, d1, ds1, p1, q1, rfl, rfl, rfl, h1, r1⟩ := trodAll_cons r0
  obtain ⟨rfl, rfl, rfl⟩ := trodAll_nil r1
  obtain rfl : args = #[v0, v1] := by cases args; simp_all
  obtain ⟨rfl, rfl⟩ := trodVars_none hV
  have k0 := h0
  have lt0 : ∀ x ∈ p0, x.block < W.heap.size := by obtain ⟨m, hm⟩ := k0; exact DataW.trod_lt m _ _ _ hm
  obtain ⟨cs0, rfl, hcs0, hf0⟩ := open_agg Try.underlying25 (by kernel_rfl) (by kernel_rfl) (hval 0 25 v0 rfl rfl) h0
  obtain ⟨_, _, _, e0_0, q0_0⟩ := hf0 0 _ rfl
  obtain ⟨a0_0, n0_0, c0_0, z0_0, rfl, m0_0, h0_0, f0_0⟩ := openASS q0_0
  obtain ⟨_, _, _, e0_1, q0_1⟩ := hf0 1 _ rfl
  obtain ⟨a0_1, n0_1, c0_1, z0_1, rfl, m0_1, h0_1, f0_1⟩ := openLinkS q0_1
  obtain rfl : cs0 = #[.slice a0_0 n0_0 c0_0, .slice a0_1 n0_1 c0_1] := arr_of [.slice a0_0 n0_0 c0_0, .slice a0_1 n0_1 c0_1] hcs0 (fun j hj => by match j, hj with | 0, _ => exact e0_0 | 1, _ => exact e0_1)
  obtain ⟨a1, rfl, rfl, rfl, w1⟩ := open_int Try.underlying3 (hval 1 3 v1 rfl rfl) h1
  clear hA0 hval0
  refine (walk a0_0 n0_0 c0_0 z0_0 a0_1 n0_1 c0_1 z0_1 a1 W h0_0 m0_0 f0_0 h0_1 m0_1 f0_1 w1).mono fun e W' ⟨he, bel⟩ => ?_
  subst he
  exact ⟨_, rfl, _, _, _, [], _, [], hW', trodAll_mk1 (shut_bool Try.underlying4 _), (trodAll_cons_mk (Below.trod laidOut (by kernel_rfl) (of_decide_eq_true (by kernel_rfl)) k0 bel lt0) (trodAll_cons_mk (shut_int Try.underlying3 w1) trodAll_mk0)), rfl, bel.frame _, fun h => by cases h⟩

theorem over : Rows.fnExactCoreComponentRow.holds Try.pinned (OpenSpec.ofChange Rows.fnExactCoreComponentSpec) :=
  OpenClaim.holds_of_wide 12 Try.f12 rfl rfl rfl rfl rfl rfl rfl ⟨rfl, rfl, rfl, rfl, rfl⟩ rfl rfl rfl rfl rfl (by kernel_rfl) Try.func12 (by kernel_rfl)
    (of_decide_eq_true (by kernel_rfl)) (by unfold Func.isWrapper; first | (rw [if_pos (by decide +kernel)]; kernel_rfl) | (rw [if_neg (by decide +kernel)]; exact ⟨rfl, rfl⟩))
    (fun os started H enc _ => lifted os started H enc)

theorem proved : Rows.FnExactCoreComponentSaid := over
#print axioms proved
end Go.Proofs.Ytjlglppknemffaa.fnExactCoreComponent
