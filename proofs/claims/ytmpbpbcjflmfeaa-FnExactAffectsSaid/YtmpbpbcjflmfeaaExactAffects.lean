
/- For every path and every revocation, the law on Affects returns true; no further condition. -/
import Derived.Test.YtmpbpbcjflmfeaaRows
import Derived.WalkKit
import Derived.ProofKit
import Derived.OpenShut
import Derived.ShutString
import Derived.ChangeOld
import Derived.Below
import Derived.Test.YtmpbpbcjflmfeaaStruct
import Derived.Test.YtmpbpbcjflmfeaaOPathPart
import Derived.Test.YtmpbpbcjflmfeaaStruct
import Derived.Deep.RegionHeld3
import Derived.Test.YtmpbpbcjflmfeaaAff
namespace Go.Proofs.Ytmpbpbcjflmfeaa.fnExactAffects
open Go.ChangeShapes Go.WideShapes Go.ChangeAt Go.RowKit
open Go.ChangeMaps (open_string shut_string)
set_option linter.unusedVariables false

theorem own : ownKnob Try.prog.godebug = none := by kernel_rfl
theorem laidOut : laidOutB Try.prog = true := by kernel_rfl

set_option maxRecDepth 100000 in
set_option maxHeartbeats 4000000 in
theorem walk (a0_0 : Option Addr) (n0_0 c0_0 : Nat) (z0_0 : List TPathPart) (a1_0 : Int) (a1_1 : Int) (a1_2 : Int) (w : World) (h0_0 : HasPathPart w w.heap.size a0_0 n0_0 z0_0) (m0_0 : n0_0 ≤ 9223372036854775807) (f0_0 : ∀ x ∈ z0_0, TPathPart.fits x) (w1_0 : (Lit.int .i64 a1_0).wf = true) (w1_1 : (Lit.int .i64 a1_1).wf = true) (w1_2 : (Lit.int .i64 a1_2).wf = true) :
    Calls Try.prog 11 #[.agg #[.slice a0_0 n0_0 c0_0], .agg #[.int .i64 a1_0, .int .i64 a1_1, .int .i64 a1_2]] w fun e w' => e = .returned (.bool true) ∧ Below w.heap.size w w' := by
  by_cases hbig0 : (1048576 : Int) < ((szPathPart z0_0 n0_0 : Nat) : Int)
  · go_enter Try.func11, Try.ntmps11
    go_wp2_with fail
    have M0 : Mk0 w ((w.alloc (Obj.cells #[Value.slice a0_0 n0_0 c0_0] 24)).alloc (Obj.cells #[Value.int .i64 a1_0, Value.int .i64 a1_1, Value.int .i64 a1_2] 57)) := ((Mk.alloc w _).new _)
    have k0_0 : ((w.alloc (Obj.cells #[Value.slice a0_0 n0_0 c0_0] 24)).alloc (Obj.cells #[Value.int .i64 a1_0, Value.int .i64 a1_1, Value.int .i64 a1_2] 57)).cell? ⟨w.heap.size, 0, none⟩ = some (.slice a0_0 n0_0 c0_0) := by simp [go_sem]
    have k1_0 : ((w.alloc (Obj.cells #[Value.slice a0_0 n0_0 c0_0] 24)).alloc (Obj.cells #[Value.int .i64 a1_0, Value.int .i64 a1_1, Value.int .i64 a1_2] 57)).cell? ⟨w.heap.size + 1, 0, none⟩ = some (.int .i64 a1_0) := by simp [go_sem]
    have k1_1 : ((w.alloc (Obj.cells #[Value.slice a0_0 n0_0 c0_0] 24)).alloc (Obj.cells #[Value.int .i64 a1_0, Value.int .i64 a1_1, Value.int .i64 a1_2] 57)).cell? ⟨w.heap.size + 1, 1, none⟩ = some (.int .i64 a1_1) := by simp [go_sem]
    have k1_2 : ((w.alloc (Obj.cells #[Value.slice a0_0 n0_0 c0_0] 24)).alloc (Obj.cells #[Value.int .i64 a1_0, Value.int .i64 a1_1, Value.int .i64 a1_2] 57)).cell? ⟨w.heap.size + 1, 2, none⟩ = some (.int .i64 a1_2) := by simp [go_sem]
    refine (szPathB _ _ _ z0_0 w.heap.size _ _ (h0_0.mk M0 (Nat.le_refl _) (.inr (Nat.le_refl _))) M0.size (by omega) (by omega) (by omega) m0_0).mono ?_
    rintro e w1 ⟨rfl, m1⟩
    go_wp2_with fail
    go_ret
    exact ⟨rfl, (M0.trans m1).below0⟩
  have hn0 : ((szPathPart z0_0 n0_0 : Nat) : Int) ≤ (1048576 : Int) := by omega
  clear hbig0
  go_enter Try.func11, Try.ntmps11
  go_wp2_with fail
  have M0 : Mk0 w ((w.alloc (Obj.cells #[Value.slice a0_0 n0_0 c0_0] 24)).alloc (Obj.cells #[Value.int .i64 a1_0, Value.int .i64 a1_1, Value.int .i64 a1_2] 57)) := ((Mk.alloc w _).new _)
  have k0_0 : ((w.alloc (Obj.cells #[Value.slice a0_0 n0_0 c0_0] 24)).alloc (Obj.cells #[Value.int .i64 a1_0, Value.int .i64 a1_1, Value.int .i64 a1_2] 57)).cell? ⟨w.heap.size, 0, none⟩ = some (.slice a0_0 n0_0 c0_0) := by simp [go_sem]
  have k1_0 : ((w.alloc (Obj.cells #[Value.slice a0_0 n0_0 c0_0] 24)).alloc (Obj.cells #[Value.int .i64 a1_0, Value.int .i64 a1_1, Value.int .i64 a1_2] 57)).cell? ⟨w.heap.size + 1, 0, none⟩ = some (.int .i64 a1_0) := by simp [go_sem]
  have k1_1 : ((w.alloc (Obj.cells #[Value.slice a0_0 n0_0 c0_0] 24)).alloc (Obj.cells #[Value.int .i64 a1_0, Value.int .i64 a1_1, Value.int .i64 a1_2] 57)).cell? ⟨w.heap.size + 1, 1, none⟩ = some (.int .i64 a1_1) := by simp [go_sem]
  have k1_2 : ((w.alloc (Obj.cells #[Value.slice a0_0 n0_0 c0_0] 24)).alloc (Obj.cells #[Value.int .i64 a1_0, Value.int .i64 a1_1, Value.int .i64 a1_2] 57)).cell? ⟨w.heap.size + 1, 2, none⟩ = some (.int .i64 a1_2) := by simp [go_sem]
  refine (szPathC _ _ _ z0_0 w.heap.size _ _ (h0_0.mk M0 (Nat.le_refl _) (.inr (Nat.le_refl _))) M0.size (by omega) (by omega) (by omega)).mono ?_
  rintro e w1 ⟨l1, hl1, rfl, m1⟩
  have M1 := M0.trans m1
  replace k0_0 := m1.cellAt k0_0
  replace k1_0 := m1.cellAt k1_0
  replace k1_1 := m1.cellAt k1_1
  replace k1_2 := m1.cellAt k1_2
  have z1 := m1.size
  simp only [World.size_alloc] at z1
  go_wp2_with fail
  have e1 : ∀ w', Mk0 w1 w' → HasPathPart w' w.heap.size a0_0 n0_0 z0_0 := fun w' m => h0_0.mk (M1.trans m) (Nat.le_refl _) (.inr (Nat.le_refl _))
  have hN0_0 : szPathPart z0_0 n0_0 ≤ 1048576 := by omega
  go_region_held3 (fun w' => Mk0 w1 w' ∧ w'.cell? ⟨w.heap.size, 0, none⟩ = some (.slice a0_0 n0_0 c0_0) ∧ w'.cell? ⟨w.heap.size + 1, 0, none⟩ = some (.int .i64 a1_0) ∧ w'.cell? ⟨w.heap.size + 1, 1, none⟩ = some (.int .i64 a1_1) ∧ w'.cell? ⟨w.heap.size + 1, 2, none⟩ = some (.int .i64 a1_2)) (first | exact ⟨Mk.drew1 _, k0_0, k1_0, k1_1, k1_2⟩ | (obtain ⟨s0, s1, s2, s3, s4⟩ := ‹Mk0 w1 _ ∧ _›; exact ⟨s0.trans mm, mm.cellAt s1, mm.cellAt s2, mm.cellAt s3, mm.cellAt s4⟩)) (first | (go_at_call 17; with_reducible refine (toPathC a0_0 n0_0 c0_0 z0_0 w.heap.size _ (e1 _ (‹Mk0 w1 _ ∧ _›).1) (M1.trans (‹Mk0 w1 _ ∧ _›).1).size hN0_0).mono ?_; rintro e wc0 ⟨bc0_0, rfl, oc0_0, gc0_0, mc0⟩; have mm := mc0) | (go_at_call 45; with_reducible refine (toRevocationI a1_0 a1_1 a1_2 _).mono ?_; rintro e wf1 ⟨rfl, mf1⟩; have mm := mf1) | (go_at_call 44; refine (specAff ⟨a1_0, a1_1, a1_2⟩ _ _ _ _ z0_0 _ (by first | exact (oc0_0.has.mono (Nat.le_refl _)) | exact (oc0_0.has.mono (Nat.le_refl _)).mk mf1 (Nat.le_refl _) (.inr (Nat.le_refl _))) (by first | exact Nat.le_refl _ | exact mf1.size) hN0_0).mono ?_; rintro e wz2 ⟨rfl, mm⟩))
  all_goals (
    obtain ⟨m2, k0_0, k1_0, k1_1, k1_2⟩ := ‹Mk0 w1 _ ∧ _›
    refine ‹∀ (a : Act) (w : World), _ → _› _ _ ?_
    clear e1 hN0_0
    have M2 := M1.trans m2
    have z2 := m2.size
    go_wp2_with fail
    refine (toPathC _ _ _ _ w.heap.size _ (h0_0.mk M2 (Nat.le_refl _) (.inr (Nat.le_refl _))) (by omega) (by omega)).mono ?_
    rintro e w3 ⟨b2, rfl, o3, g4, m3⟩
    have M3 := M2.trans m3
    have z3 := m3.size
    replace k0_0 := m3.cellAt k0_0
    replace k1_0 := m3.cellAt k1_0
    replace k1_1 := m3.cellAt k1_1
    replace k1_2 := m3.cellAt k1_2
    have h5 := o3.has.mono (B' := w3.heap.size) (by omega)
    clear o3
    have yb6 : w.heap.size < w3.heap.size := by omega
    have yb7 : w.heap.size + 1 < w3.heap.size := by omega
    go_wp2_with fail
    have xx0_0 : (w3.alloc (Obj.cells #[Value.slice (some ⟨b2, 0, none⟩) n0_0 n0_0] 30)).cell? ⟨w3.heap.size, 0, none⟩ = some (.slice (some ⟨b2, 0, none⟩) n0_0 n0_0) := by rw [World.cell?_alloc_at _ _ _ _ rfl]; rfl
    have m4 := Mk.alloc w3 (Obj.cells #[Value.slice (some ⟨b2, 0, none⟩) n0_0 n0_0] 30)
    replace k0_0 := m4.cellAt k0_0
    replace k1_0 := m4.cellAt k1_0
    replace k1_1 := m4.cellAt k1_1
    replace k1_2 := m4.cellAt k1_2
    replace h5 := h5.mk m4 (by omega) (.inr (Nat.le_refl _))
    have M4 := M3.trans m4
    have z4 := m4.size
    have zz4 : w3.heap.size < (w3.alloc (Obj.cells #[Value.slice (some ⟨b2, 0, none⟩) n0_0 n0_0] 30)).heap.size := by rw [World.size_alloc]; omega
    generalize (w3.alloc (Obj.cells #[Value.slice (some ⟨b2, 0, none⟩) n0_0 n0_0] 30)) = w4 at *
    have e8 : ∀ w', Mk0 w4 w' → HasPathPart w' w3.heap.size (some ⟨b2, 0, none⟩) n0_0 z0_0 := fun w' m => h5.mk m (by omega) (.inr (Nat.le_refl _))
    have e9 : ∀ w', Mk0 w4 w' → w3.heap.size ≤ w'.heap.size := fun w' m => Nat.le_trans (by omega) m.size
    have hN0_0 : szPathPart z0_0 n0_0 ≤ 1048576 := by omega
    go_region_held3 (fun w' => Mk0 w4 w' ∧ w'.cell? ⟨w.heap.size, 0, none⟩ = some (.slice a0_0 n0_0 c0_0) ∧ w'.cell? ⟨w.heap.size + 1, 0, none⟩ = some (.int .i64 a1_0) ∧ w'.cell? ⟨w.heap.size + 1, 1, none⟩ = some (.int .i64 a1_1) ∧ w'.cell? ⟨w.heap.size + 1, 2, none⟩ = some (.int .i64 a1_2) ∧ w'.cell? ⟨w3.heap.size, 0, none⟩ = some (.slice (some ⟨b2, 0, none⟩) n0_0 n0_0)) (first | exact ⟨Mk.drew1 _, k0_0, k1_0, k1_1, k1_2, xx0_0⟩ | (obtain ⟨s0, s1, s2, s3, s4, s5⟩ := ‹Mk0 w4 _ ∧ _›; exact ⟨s0.trans mm, mm.cellAt s1, mm.cellAt s2, mm.cellAt s3, mm.cellAt s4, mm.cellAt s5⟩)) (first | (go_at_call 45; with_reducible refine (toRevocationI a1_0 a1_1 a1_2 _).mono ?_; rintro e wf1 ⟨rfl, mf1⟩; have mm := mf1) | (go_at_call 46; refine (implAff ⟨a1_0, a1_1, a1_2⟩ _ _ _ _ z0_0 _ (e8 _ (‹Mk0 w4 _ ∧ _›).1) (e9 _ (‹Mk0 w4 _ ∧ _›).1) hN0_0).mono ?_; rintro e wz5 ⟨rfl, mm⟩))
    obtain ⟨m5, k0_0, k1_0, k1_1, k1_2, xx0_0⟩ := ‹Mk0 w4 _ ∧ _›
    refine ‹∀ (a : Act) (w : World), _ → _› _ _ ?_
    clear e8 e9 hN0_0
    have M5 := M4.trans m5
    have z5 := m5.size
    replace h5 := h5.mk m5 (by omega) (.inr (Nat.le_refl _))
    go_wp2_with fail
    have e10 : ∀ w', Mk0 wz5 w' → HasPathPart w' w3.heap.size (some ⟨b2, 0, none⟩) n0_0 z0_0 := fun w' m => h5.mk m (by omega) (.inr (Nat.le_refl _))
    have e11 : ∀ w', Mk0 wz5 w' → w3.heap.size ≤ w'.heap.size := fun w' m => Nat.le_trans (by omega) m.size
    have e12 : ∀ w', Mk0 wz5 w' → HasPathPart w' w.heap.size a0_0 n0_0 z0_0 := fun w' m => h0_0.mk (M5.trans m) (Nat.le_refl _) (.inr (Nat.le_refl _))
    have hN0_0 : szPathPart z0_0 n0_0 ≤ 1048576 := by omega
    go_region_held3 (fun w' => Mk0 wz5 w' ∧ w'.cell? ⟨w.heap.size, 0, none⟩ = some (.slice a0_0 n0_0 c0_0) ∧ w'.cell? ⟨w.heap.size + 1, 0, none⟩ = some (.int .i64 a1_0) ∧ w'.cell? ⟨w.heap.size + 1, 1, none⟩ = some (.int .i64 a1_1) ∧ w'.cell? ⟨w.heap.size + 1, 2, none⟩ = some (.int .i64 a1_2) ∧ w'.cell? ⟨w3.heap.size, 0, none⟩ = some (.slice (some ⟨b2, 0, none⟩) n0_0 n0_0)) (first | exact ⟨Mk.drew1 _, k0_0, k1_0, k1_1, k1_2, xx0_0⟩ | (obtain ⟨s0, s1, s2, s3, s4, s5⟩ := ‹Mk0 wz5 _ ∧ _›; exact ⟨s0.trans mm, mm.cellAt s1, mm.cellAt s2, mm.cellAt s3, mm.cellAt s4, mm.cellAt s5⟩)) (first | (go_at_call 17; refine (toPathC _ _ _ _ w.heap.size _ (e12 _ (‹Mk0 wz5 _ ∧ _›).1) (M5.trans (‹Mk0 wz5 _ ∧ _›).1).size hN0_0).mono ?_; rintro e wa ⟨bb0, rfl, oo0, gg0, mm⟩) | (go_at_call 20; refine (eqPathC _ _ _ _ _ _ _ _ _ (e10 _ (‹Mk0 wz5 _ ∧ _›).1) (oo0.has.mono (Nat.le_refl _)) (e11 _ (‹Mk0 wz5 _ ∧ _›).1) (Nat.le_refl _) hN0_0).mono ?_; rintro e wb6 ⟨rfl, mm⟩))
    obtain ⟨m6, k0_0, k1_0, k1_1, k1_2, xx0_0⟩ := ‹Mk0 wz5 _ ∧ _›
    clear e10 e11 e12 hN0_0
    refine ‹∀ (a : Act) (w : World), _ → _› _ _ ?_
    have M6 := M5.trans m6
    have z6 := m6.size
    replace h5 := h5.mk m6 (by omega) (.inr (Nat.le_refl _))
    go_wp2_with fail
    go_ret
    exact ⟨rfl, M6.below0⟩)

set_option maxRecDepth 100000 in
theorem lifted (os : Os) (started : os.Started) (H : Type) (enc : TypeId × Value → H) :
    ReturnsInHanded {} Try.checked os 11 .any (Rows.fnExactAffectsSpec.pre6 enc Try.prog Try.f11 Rows.fnExactAffectsRow.domain false) (Rows.fnExactAffectsSpec.post enc Try.prog Try.f11 false true false false) := by
  refine returnsInHanded_of_change (C := Try.checked) own started (by kernel_rfl) Try.func11
    (ChangeSpec.witness6 (enc := enc) (C := Try.checked) false ⟨#[], #[.agg #[.slice none 0 0], .agg #[.int .i64 0, .int .i64 0, .int .i64 0]], []⟩ 8 (by kernel_rfl) (by kernel_rfl) (by kernel_rfl) (by kernel_rfl)) ?_
  intro W base args ds gs before hval0 hW hcnd _
  have hval : ∀ (j : Nat) t v, Try.f11.params[j]? = some t → args[j]? = some v → Value.okWide Try.prog W .any base t v := hval0
  have hW' := hW
  obtain ⟨p, q, hA0, hV, rfl, hfz, hnd⟩ := hW
  have hA : DataW.TrodAll enc Try.prog W 0 (fun _ => true) true Try.f11.params.toList args.toList ds p := hA0
  rw [Try.params11] at hA hval
  obtain ⟨v0, vs0, d0, ds0, p0, q0, hargs, rfl, rfl, h0, r0⟩ := trodAll_cons hA
  obtain ⟨v1, vs1, d1, ds1, p1, q1, rfl, rfl, rfl, h1, r1⟩ := trodAll_cons r0
  obtain ⟨rfl, rfl, rfl⟩ := trodAll_nil r1
  obtain rfl : args = #[v0, v1] := by cases args; simp_all
  obtain ⟨rfl, rfl⟩ := trodVars_none hV
  have k0 := h0
  have lt0 : ∀ x ∈ p0, x.block < W.heap.size := by obtain ⟨m, hm⟩ := k0; exact DataW.trod_lt m _ _ _ hm
  obtain ⟨cs0, rfl, hcs0, hf0⟩ := open_agg Try.underlying24 (by kernel_rfl) (by kernel_rfl) (hval 0 24 v0 rfl rfl) h0
  obtain ⟨_, _, _, e0_0, q0_0⟩ := hf0 0 _ rfl
  obtain ⟨a0_0, n0_0, c0_0, z0_0, rfl, m0_0, h0_0, f0_0⟩ := openPathPartS q0_0
  obtain rfl : cs0 = #[.slice a0_0 n0_0 c0_0] := arr_of [.slice a0_0 n0_0 c0_0] hcs0 (fun j hj => by match j, hj with | 0, _ => exact e0_0)
  have k1 := h1
  have lt1 : ∀ x ∈ p1, x.block < W.heap.size := by obtain ⟨m, hm⟩ := k1; exact DataW.trod_lt m _ _ _ hm
  obtain ⟨cs1, rfl, hcs1, hf1⟩ := open_flat Try.underlying57 (by kernel_rfl) (by kernel_rfl) (hval 1 57 v1 rfl rfl) h1
  obtain ⟨_, e1_0, qi, _⟩ := hf1 0 _ rfl; obtain ⟨a1_0, rfl, w1_0⟩ := qi Try.underlying3
  obtain ⟨_, e1_1, qi, _⟩ := hf1 1 _ rfl; obtain ⟨a1_1, rfl, w1_1⟩ := qi Try.underlying3
  obtain ⟨_, e1_2, qi, _⟩ := hf1 2 _ rfl; obtain ⟨a1_2, rfl, w1_2⟩ := qi Try.underlying3
  obtain rfl : cs1 = #[.int .i64 a1_0, .int .i64 a1_1, .int .i64 a1_2] := arr_of [.int .i64 a1_0, .int .i64 a1_1, .int .i64 a1_2] hcs1 (fun j hj => by match j, hj with | 0, _ => exact e1_0 | 1, _ => exact e1_1 | 2, _ => exact e1_2)
  clear hA0 hval0
  refine (walk a0_0 n0_0 c0_0 z0_0 a1_0 a1_1 a1_2 W h0_0 m0_0 f0_0 w1_0 w1_1 w1_2).mono fun e W' ⟨he, bel⟩ => ?_
  subst he
  exact ⟨_, rfl, _, _, _, [], _, [], hW', trodAll_mk1 (shut_bool Try.underlying4 _), (trodAll_cons_mk (Below.trod laidOut (by kernel_rfl) (of_decide_eq_true (by kernel_rfl)) k0 bel lt0) (trodAll_cons_mk (Below.trod laidOut (by kernel_rfl) (of_decide_eq_true (by kernel_rfl)) k1 bel lt1) trodAll_mk0)), rfl, bel.frame _, fun h => by cases h⟩

theorem over : Rows.fnExactAffectsRow.holds Try.pinned (OpenSpec.ofChange Rows.fnExactAffectsSpec) :=
  OpenClaim.holds_of_wide 11 Try.f11 rfl rfl rfl rfl rfl rfl rfl ⟨rfl, rfl, rfl, rfl, rfl⟩ rfl rfl rfl rfl rfl (by kernel_rfl) Try.func11 (by kernel_rfl)
    (of_decide_eq_true (by kernel_rfl)) (by unfold Func.isWrapper; first | (rw [if_pos (by decide +kernel)]; kernel_rfl) | (rw [if_neg (by decide +kernel)]; exact ⟨rfl, rfl⟩))
    (fun os started H enc _ => lifted os started H enc)

theorem proved : Rows.FnExactAffectsSaid := over
#print axioms proved
end Go.Proofs.Ytmpbpbcjflmfeaa.fnExactAffects
