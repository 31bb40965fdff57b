
/- For every signed segment, the law on SignedDataSize returns true; no further condition. -/
import Derived.Test.YtiphndgmgpiodaaRows
import Derived.WalkKit
import Derived.ProofKit
import Derived.OpenShut
import Derived.ShutString
import Derived.ChangeOld
import Derived.Below
import Derived.Test.YtiphndgmgpiodaaOHop
import Derived.Test.YtiphndgmgpiodaaZHop
import Derived.Test.YtiphndgmgpiodaaOpenN
import Derived.Test.YtiphndgmgpiodaaStruct
import Derived.Deep.RegionHeld3
import Derived.Test.YtiphndgmgpiodaaSds
import Derived.Test.YtiphndgmgpiodaaCSignedSegment
namespace Go.Proofs.Ytiphndgmgpiodaa.fnExactSignedDataSize
open Go.ChangeShapes Go.WideShapes Go.ChangeAt Go.RowKit
open Go.ChangeMaps (open_string shut_string)
set_option linter.unusedVariables false

theorem own : ownKnob Try.prog.godebug = none := by kernel_rfl
theorem laidOut : laidOutB Try.prog = true := by kernel_rfl

set_option maxRecDepth 100000 in
set_option maxHeartbeats 4000000 in
theorem walk (a0_0 : Int) (a0_1 : Int) (a0_2 : Option Addr) (n0_2 c0_2 : Nat) (z0_2 : List THop) (a0_3 : Option Addr) (n0_3 c0_3 : Nat) (z0_3 : List TInt) (w : World) (w0_0 : (Lit.int .i64 a0_0).wf = true) (w0_1 : (Lit.int .i64 a0_1).wf = true) (h0_2 : HasHop w w.heap.size a0_2 n0_2 z0_2) (m0_2 : n0_2 ≤ 9223372036854775807) (f0_2 : ∀ x ∈ z0_2, THop.fits x) (h0_3 : HasInt w w.heap.size a0_3 n0_3 z0_3) (m0_3 : n0_3 ≤ 9223372036854775807) (f0_3 : ∀ x ∈ z0_3, TInt.fits x) :
    Calls Try.prog 7 #[.agg #[.int .i64 a0_0, .int .i64 a0_1, .slice a0_2 n0_2 c0_2, .slice a0_3 n0_3 c0_3]] w fun e w' => e = .returned (.bool true) ∧ Below w.heap.size w w' := by
  by_cases hbig0 : (1048576 : Int) < (n0_2 : Int) + (n0_3 : Int)
  · go_enter Try.func7, Try.ntmps7
    go_wp2_with fail
    have M0 : Mk0 w (w.alloc (Obj.cells #[Value.int .i64 a0_0, Value.int .i64 a0_1, Value.slice a0_2 n0_2 c0_2, Value.slice a0_3 n0_3 c0_3] 48)) := (Mk.alloc w _)
    have k0_0 : (w.alloc (Obj.cells #[Value.int .i64 a0_0, Value.int .i64 a0_1, Value.slice a0_2 n0_2 c0_2, Value.slice a0_3 n0_3 c0_3] 48)).cell? ⟨w.heap.size, 0, none⟩ = some (.int .i64 a0_0) := by simp [go_sem]
    have k0_1 : (w.alloc (Obj.cells #[Value.int .i64 a0_0, Value.int .i64 a0_1, Value.slice a0_2 n0_2 c0_2, Value.slice a0_3 n0_3 c0_3] 48)).cell? ⟨w.heap.size, 1, none⟩ = some (.int .i64 a0_1) := by simp [go_sem]
    have k0_2 : (w.alloc (Obj.cells #[Value.int .i64 a0_0, Value.int .i64 a0_1, Value.slice a0_2 n0_2 c0_2, Value.slice a0_3 n0_3 c0_3] 48)).cell? ⟨w.heap.size, 2, none⟩ = some (.slice a0_2 n0_2 c0_2) := by simp [go_sem]
    have k0_3 : (w.alloc (Obj.cells #[Value.int .i64 a0_0, Value.int .i64 a0_1, Value.slice a0_2 n0_2 c0_2, Value.slice a0_3 n0_3 c0_3] 48)).cell? ⟨w.heap.size, 3, none⟩ = some (.slice a0_3 n0_3 c0_3) := by simp [go_sem]
    refine (szSignedSegmentB _ _ _ _ _ _ _ _ _ _ (by omega) (by omega) (by omega) m0_2 m0_3).mono ?_
    rintro e w1 ⟨rfl, m1⟩
    go_wp2_with fail
    go_ret
    exact ⟨rfl, (M0.trans m1).below0⟩
  have hn0 : (n0_2 : Int) + (n0_3 : Int) ≤ (1048576 : Int) := by omega
  clear hbig0
  go_enter Try.func7, Try.ntmps7
  go_wp2_with fail
  have M0 : Mk0 w (w.alloc (Obj.cells #[Value.int .i64 a0_0, Value.int .i64 a0_1, Value.slice a0_2 n0_2 c0_2, Value.slice a0_3 n0_3 c0_3] 48)) := (Mk.alloc w _)
  have k0_0 : (w.alloc (Obj.cells #[Value.int .i64 a0_0, Value.int .i64 a0_1, Value.slice a0_2 n0_2 c0_2, Value.slice a0_3 n0_3 c0_3] 48)).cell? ⟨w.heap.size, 0, none⟩ = some (.int .i64 a0_0) := by simp [go_sem]
  have k0_1 : (w.alloc (Obj.cells #[Value.int .i64 a0_0, Value.int .i64 a0_1, Value.slice a0_2 n0_2 c0_2, Value.slice a0_3 n0_3 c0_3] 48)).cell? ⟨w.heap.size, 1, none⟩ = some (.int .i64 a0_1) := by simp [go_sem]
  have k0_2 : (w.alloc (Obj.cells #[Value.int .i64 a0_0, Value.int .i64 a0_1, Value.slice a0_2 n0_2 c0_2, Value.slice a0_3 n0_3 c0_3] 48)).cell? ⟨w.heap.size, 2, none⟩ = some (.slice a0_2 n0_2 c0_2) := by simp [go_sem]
  have k0_3 : (w.alloc (Obj.cells #[Value.int .i64 a0_0, Value.int .i64 a0_1, Value.slice a0_2 n0_2 c0_2, Value.slice a0_3 n0_3 c0_3] 48)).cell? ⟨w.heap.size, 3, none⟩ = some (.slice a0_3 n0_3 c0_3) := by simp [go_sem]
  refine (szSignedSegmentC _ _ _ _ _ _ _ _ _ _ (by omega) (by omega) (by omega)).mono ?_
  rintro e w1 ⟨l1, hl1, rfl, m1⟩
  have M1 := M0.trans m1
  replace k0_0 := m1.cellAt k0_0
  replace k0_1 := m1.cellAt k0_1
  replace k0_2 := m1.cellAt k0_2
  replace k0_3 := m1.cellAt k0_3
  have z1 := m1.size
  simp only [World.size_alloc] at z1
  go_wp2_with fail
  refine (toSignedSegmentC _ _ _ _ _ _ _ _ _ _ w.heap.size _ (h0_2.mk M1 (Nat.le_refl _) (.inr (Nat.le_refl _))) (h0_3.mk M1 (Nat.le_refl _) (.inr (Nat.le_refl _))) (by omega) (by omega) (by omega)).mono ?_
  rintro e w2 ⟨b1, b2, d3, rfl, o4, o5, g6, g7, m2⟩
  have M2 := M1.trans m2
  have z2 := m2.size
  replace k0_0 := m2.cellAt k0_0
  replace k0_1 := m2.cellAt k0_1
  replace k0_2 := m2.cellAt k0_2
  replace k0_3 := m2.cellAt k0_3
  have h8 := o4.has.mono (B' := w2.heap.size) (by omega)
  clear o4
  have h9 := o5.has.mono (B' := w2.heap.size) (by omega)
  clear o5
  go_wp2_with fail
  refine (specSds a0_0 a0_1 _ _ n0_2 _ _ _ _ z0_2 _ h8 (by omega) (by omega)).mono ?_
  rintro e w3 ⟨rfl, m3⟩
  have M3 := M2.trans m3
  have z3 := m3.size
  replace k0_0 := m3.cellAt k0_0
  replace k0_1 := m3.cellAt k0_1
  replace k0_2 := m3.cellAt k0_2
  replace k0_3 := m3.cellAt k0_3
  replace h8 := h8.mk m3 (by omega) (.inr (Nat.le_refl _))
  replace h9 := h9.mk m3 (by omega) (.inr (Nat.le_refl _))
  go_wp2_with fail
  refine (toSignedSegmentC _ _ _ _ _ _ _ _ _ _ w.heap.size _ (h0_2.mk M3 (Nat.le_refl _) (.inr (Nat.le_refl _))) (h0_3.mk M3 (Nat.le_refl _) (.inr (Nat.le_refl _))) (by omega) (by omega) (by omega)).mono ?_
  rintro e w4 ⟨b10, b11, d12, rfl, o13, o14, g15, g16, m4⟩
  have M4 := M3.trans m4
  have z4 := m4.size
  replace k0_0 := m4.cellAt k0_0
  replace k0_1 := m4.cellAt k0_1
  replace k0_2 := m4.cellAt k0_2
  replace k0_3 := m4.cellAt k0_3
  have h17 := o13.has.mono (B' := w4.heap.size) (by omega)
  clear o13
  have h18 := o14.has.mono (B' := w4.heap.size) (by omega)
  clear o14
  go_wp2_with fail
  have xx0_0 : (w4.alloc (Obj.cells #[Value.int .i64 a0_0, Value.int .i64 a0_1, Value.slice (some ⟨b10, 0, none⟩) n0_2 n0_2, Value.slice (some ⟨b11, 0, none⟩) n0_3 n0_3] 58)).cell? ⟨w4.heap.size, 0, none⟩ = some (.int .i64 a0_0) := by rw [World.cell?_alloc_at _ _ _ _ rfl]; rfl
  have xx0_1 : (w4.alloc (Obj.cells #[Value.int .i64 a0_0, Value.int .i64 a0_1, Value.slice (some ⟨b10, 0, none⟩) n0_2 n0_2, Value.slice (some ⟨b11, 0, none⟩) n0_3 n0_3] 58)).cell? ⟨w4.heap.size, 1, none⟩ = some (.int .i64 a0_1) := by rw [World.cell?_alloc_at _ _ _ _ rfl]; rfl
  have xx0_2 : (w4.alloc (Obj.cells #[Value.int .i64 a0_0, Value.int .i64 a0_1, Value.slice (some ⟨b10, 0, none⟩) n0_2 n0_2, Value.slice (some ⟨b11, 0, none⟩) n0_3 n0_3] 58)).cell? ⟨w4.heap.size, 2, none⟩ = some (.slice (some ⟨b10, 0, none⟩) n0_2 n0_2) := by rw [World.cell?_alloc_at _ _ _ _ rfl]; rfl
  have xx0_3 : (w4.alloc (Obj.cells #[Value.int .i64 a0_0, Value.int .i64 a0_1, Value.slice (some ⟨b10, 0, none⟩) n0_2 n0_2, Value.slice (some ⟨b11, 0, none⟩) n0_3 n0_3] 58)).cell? ⟨w4.heap.size, 3, none⟩ = some (.slice (some ⟨b11, 0, none⟩) n0_3 n0_3) := by rw [World.cell?_alloc_at _ _ _ _ rfl]; rfl
  refine (implSds a0_0 a0_1 _ _ n0_2 _ _ _ _ z0_2 _ (h17.mk (Mk.alloc _ _) (by omega) (.inr (Nat.le_refl _))) (by rw [World.size_alloc]; omega) (by omega) (Nat.le_refl _)).mono ?_
  rintro e w5 ⟨rfl, m5⟩
  replace xx0_0 := m5.cellAt xx0_0
  replace xx0_1 := m5.cellAt xx0_1
  replace xx0_2 := m5.cellAt xx0_2
  replace xx0_3 := m5.cellAt xx0_3
  replace m5 := (Mk.alloc w4 _).trans m5
  have M5 := M4.trans m5
  have z5 := m5.size
  replace k0_0 := m5.cellAt k0_0
  replace k0_1 := m5.cellAt k0_1
  replace k0_2 := m5.cellAt k0_2
  replace k0_3 := m5.cellAt k0_3
  replace h17 := h17.mk m5 (by omega) (.inr (Nat.le_refl _))
  replace h18 := h18.mk m5 (by omega) (.inr (Nat.le_refl _))
  go_wp2_with fail
  have e19 : ∀ w', Mk0 w5 w' → HasHop w' w4.heap.size (some ⟨b10, 0, none⟩) n0_2 z0_2 := fun w' m => h17.mk m (by omega) (.inr (Nat.le_refl _))
  have e20 : ∀ w', Mk0 w5 w' → HasInt w' w4.heap.size (some ⟨b11, 0, none⟩) n0_3 z0_3 := fun w' m => h18.mk m (by omega) (.inr (Nat.le_refl _))
  have e21 : ∀ w', Mk0 w5 w' → w4.heap.size ≤ w'.heap.size := fun w' m => Nat.le_trans (by omega) m.size
  have e22 : ∀ w', Mk0 w5 w' → HasHop w' w.heap.size a0_2 n0_2 z0_2 := fun w' m => h0_2.mk (M5.trans m) (Nat.le_refl _) (.inr (Nat.le_refl _))
  have e23 : ∀ w', Mk0 w5 w' → HasInt w' w.heap.size a0_3 n0_3 z0_3 := fun w' m => h0_3.mk (M5.trans m) (Nat.le_refl _) (.inr (Nat.le_refl _))
  have hN0_2 : n0_2 ≤ 1048576 := by omega
  have hN0_3 : n0_3 ≤ 1048576 := by omega
  go_region_held3 (fun w' => Mk0 w5 w' ∧ w'.cell? ⟨w.heap.size, 0, none⟩ = some (.int .i64 a0_0) ∧ w'.cell? ⟨w.heap.size, 1, none⟩ = some (.int .i64 a0_1) ∧ w'.cell? ⟨w.heap.size, 2, none⟩ = some (.slice a0_2 n0_2 c0_2) ∧ w'.cell? ⟨w.heap.size, 3, none⟩ = some (.slice a0_3 n0_3 c0_3) ∧ w'.cell? ⟨w4.heap.size, 0, none⟩ = some (.int .i64 a0_0) ∧ w'.cell? ⟨w4.heap.size, 1, none⟩ = some (.int .i64 a0_1) ∧ w'.cell? ⟨w4.heap.size, 2, none⟩ = some (.slice (some ⟨b10, 0, none⟩) n0_2 n0_2) ∧ w'.cell? ⟨w4.heap.size, 3, none⟩ = some (.slice (some ⟨b11, 0, none⟩) n0_3 n0_3)) (first | exact ⟨Mk.drew1 _, k0_0, k0_1, k0_2, k0_3, xx0_0, xx0_1, xx0_2, xx0_3⟩ | (obtain ⟨s0, s1, s2, s3, s4, s5, s6, s7, s8⟩ := ‹Mk0 w5 _ ∧ _›; exact ⟨s0.trans mm, mm.cellAt s1, mm.cellAt s2, mm.cellAt s3, mm.cellAt s4, mm.cellAt s5, mm.cellAt s6, mm.cellAt s7, mm.cellAt s8⟩)) (first | (go_at_call 26; refine (toSignedSegmentC _ _ _ _ _ _ _ _ _ _ w.heap.size _ (e22 _ (‹Mk0 w5 _ ∧ _›).1) (e23 _ (‹Mk0 w5 _ ∧ _›).1) (M5.trans (‹Mk0 w5 _ ∧ _›).1).size hN0_2 hN0_3).mono ?_; rintro e wa ⟨bb0, bb1, dd0, rfl, oo0, oo1, gg0, gg1, mm⟩) | (go_at_call 29; refine (eqSignedSegmentC _ _ _ _ _ _ _ _ _ _ _ _ _ _ _ _ _ (e19 _ (‹Mk0 w5 _ ∧ _›).1) (e20 _ (‹Mk0 w5 _ ∧ _›).1) (oo0.has.mono gg1) (oo1.has.mono (Nat.le_refl _)) (e21 _ (‹Mk0 w5 _ ∧ _›).1) (Nat.le_refl _) hN0_2 hN0_3).mono ?_; rintro e wb6 ⟨rfl, mm⟩))
  obtain ⟨m6, k0_0, k0_1, k0_2, k0_3, xx0_0, xx0_1, xx0_2, xx0_3⟩ := ‹Mk0 w5 _ ∧ _›
  clear e19 e20 e21 e22 e23 hN0_2 hN0_3
  refine ‹∀ (a : Act) (w : World), _ → _› _ _ ?_
  have M6 := M5.trans m6
  have z6 := m6.size
  replace h17 := h17.mk m6 (by omega) (.inr (Nat.le_refl _))
  replace h18 := h18.mk m6 (by omega) (.inr (Nat.le_refl _))
  go_wp2_with fail
  go_ret
  exact ⟨rfl, M6.below0⟩

set_option maxRecDepth 100000 in
theorem lifted (os : Os) (started : os.Started) (H : Type) (enc : TypeId × Value → H) :
    ReturnsInHanded {} Try.checked os 7 .any (Rows.fnExactSignedDataSizeSpec.pre6 enc Try.prog Try.f7 Rows.fnExactSignedDataSizeRow.domain false) (Rows.fnExactSignedDataSizeSpec.post enc Try.prog Try.f7 false true false false) := by
  refine returnsInHanded_of_change (C := Try.checked) own started (by kernel_rfl) Try.func7
    (ChangeSpec.witness6 (enc := enc) (C := Try.checked) false ⟨#[], #[.agg #[.int .i64 0, .int .i64 0, .slice none 0 0, .slice none 0 0]], []⟩ 8 (by kernel_rfl) (by kernel_rfl) (by kernel_rfl) (by kernel_rfl)) ?_
  intro W base args ds gs before hval0 hW hcnd _
  have hval : ∀ (j : Nat) t v, Try.f7.params[j]? = some t → args[j]? = some v → Value.okWide Try.prog W .any base t v := hval0
  have hW' := hW
  obtain ⟨p, q, hA0, hV, rfl, hfz, hnd⟩ := hW
  have hA : DataW.TrodAll enc Try.prog W 0 (fun _ => true) true Try.f7.params.toList args.toList ds p := hA0
  rw [Try.params7] at hA hval
  obtain ⟨v0, vs0, d0, ds0, p0, q0, hargs, rfl, rfl, h0, r0⟩ := trodAll_cons hA
  obtain ⟨rfl, rfl, rfl⟩ := trodAll_nil r0
  obtain rfl : args = #[v0] := by cases args; simp_all
  obtain ⟨rfl, rfl⟩ := trodVars_none hV
  have k0 := h0
  have lt0 : ∀ x ∈ p0, x.block < W.heap.size := by obtain ⟨m, hm⟩ := k0; exact DataW.trod_lt m _ _ _ hm
  obtain ⟨cs0, rfl, hcs0, hl0⟩ := lf_open 4 Try.underlying48 (by kernel_rfl) (hval 0 48 v0 rfl rfl) h0
  have L0_0 := lf_field (a := 0) (b := 3) 0 _ Try.underlying48 rfl rfl (by kernel_rfl) (by decide) hl0
  have L0_0x0 := lf_field (a := 0) (b := 1) 0 _ Try.underlying45 rfl rfl (by kernel_rfl) (by decide) L0_0
  obtain ⟨_, _, _, e0_0, q0_0⟩ := lf_leaf (o := 0) (by rw [hcs0]; decide) L0_0x0
  have L0_0x1 := lf_field (a := 1) (b := 1) 1 _ Try.underlying45 rfl rfl (by kernel_rfl) (by decide) L0_0
  obtain ⟨_, _, _, e0_1, q0_1⟩ := lf_leaf (o := 1) (by rw [hcs0]; decide) L0_0x1
  have L0_0x2 := lf_field (a := 2) (b := 1) 2 _ Try.underlying45 rfl rfl (by kernel_rfl) (by decide) L0_0
  obtain ⟨_, _, _, e0_2, q0_2⟩ := lf_leaf (o := 2) (by rw [hcs0]; decide) L0_0x2
  have L0_1 := lf_field (a := 3) (b := 1) 1 _ Try.underlying48 rfl rfl (by kernel_rfl) (by decide) hl0
  obtain ⟨_, _, _, e0_3, q0_3⟩ := lf_leaf (o := 3) (by rw [hcs0]; decide) L0_1
  obtain ⟨a0_0, rfl, w0_0⟩ := one_int Try.underlying3 q0_0
  obtain ⟨a0_1, rfl, w0_1⟩ := one_int Try.underlying3 q0_1
  obtain ⟨a0_2, n0_2, c0_2, z0_2, rfl, m0_2, h0_2, f0_2⟩ := openHopS q0_2
  obtain ⟨a0_3, n0_3, c0_3, z0_3, rfl, m0_3, h0_3, f0_3⟩ := openIntS q0_3
  obtain rfl : cs0 = #[.int .i64 a0_0, .int .i64 a0_1, .slice a0_2 n0_2 c0_2, .slice a0_3 n0_3 c0_3] := arr_of [.int .i64 a0_0, .int .i64 a0_1, .slice a0_2 n0_2 c0_2, .slice a0_3 n0_3 c0_3] hcs0 (fun j hj => by match j, hj with | 0, _ => exact e0_0 | 1, _ => exact e0_1 | 2, _ => exact e0_2 | 3, _ => exact e0_3)
  clear hA0 hval0
  refine (walk a0_0 a0_1 a0_2 n0_2 c0_2 z0_2 a0_3 n0_3 c0_3 z0_3 W w0_0 w0_1 h0_2 m0_2 f0_2 h0_3 m0_3 f0_3).mono fun e W' ⟨he, bel⟩ => ?_
  subst he
  exact ⟨_, rfl, _, _, _, [], _, [], hW', trodAll_mk1 (shut_bool Try.underlying4 _), (trodAll_cons_mk (Below.trod laidOut (by kernel_rfl) (of_decide_eq_true (by kernel_rfl)) k0 bel lt0) trodAll_mk0), rfl, bel.frame _, fun h => by cases h⟩

theorem over : Rows.fnExactSignedDataSizeRow.holds Try.pinned (OpenSpec.ofChange Rows.fnExactSignedDataSizeSpec) :=
  OpenClaim.holds_of_wide 7 Try.f7 rfl rfl rfl rfl rfl rfl rfl ⟨rfl, rfl, rfl, rfl, rfl⟩ rfl rfl rfl rfl rfl (by kernel_rfl) Try.func7 (by kernel_rfl)
    (of_decide_eq_true (by kernel_rfl)) (by unfold Func.isWrapper; first | (rw [if_pos (by decide +kernel)]; kernel_rfl) | (rw [if_neg (by decide +kernel)]; exact ⟨rfl, rfl⟩))
    (fun os started H enc _ => lifted os started H enc)

theorem proved : Rows.FnExactSignedDataSizeSaid := over
#print axioms proved
end Go.Proofs.Ytiphndgmgpiodaa.fnExactSignedDataSize
