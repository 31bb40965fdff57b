
/- For every path, the law on PathSize returns true; no further condition. -/
import Derived.Test.YtpiilbcdiejjfaaRows
import Derived.WalkKit
import Derived.ProofKit
import Derived.OpenShut
import Derived.ShutString
import Derived.ChangeOld
import Derived.Below
import Derived.Test.YtpiilbcdiejjfaaOPathPart
import Derived.Test.YtpiilbcdiejjfaaStruct
import Derived.Deep.RegionHeld3
import Derived.Test.YtpiilbcdiejjfaaAddPath
import Derived.Test.YtpiilbcdiejjfaaKPath
namespace Go.Proofs.Ytpiilbcdiejjfaa.fnExactPathSize
open Go.ChangeShapes Go.WideShapes Go.ChangeAt Go.RowKit
open Go.ChangeMaps (open_string shut_string)
set_option linter.unusedVariables false

theorem own : ownKnob Try.prog.godebug = none := by kernel_rfl
theorem laidOut : laidOutB Try.prog = true := by kernel_rfl

set_option maxRecDepth 100000 in
set_option maxHeartbeats 4000000 in
theorem walk (a0_0 : Option Addr) (n0_0 c0_0 : Nat) (z0_0 : List TPathPart) (w : World) (h0_0 : HasPathPart w w.heap.size a0_0 n0_0 z0_0) (m0_0 : n0_0 ≤ 9223372036854775807) (f0_0 : ∀ x ∈ z0_0, TPathPart.fits x) :
    Calls Try.prog 13 #[.agg #[.slice a0_0 n0_0 c0_0]] w fun e w' => e = .returned (.bool true) ∧ Below w.heap.size w w' := by
  by_cases hbig0 : (1048576 : Int) < ((szPathPart z0_0 n0_0 : Nat) : Int)
  · go_enter Try.func13, Try.ntmps13
    go_wp2_with fail
    have M0 : Mk0 w (w.alloc (Obj.cells #[Value.slice a0_0 n0_0 c0_0] 76)) := (Mk.alloc w _)
    have k0_0 : (w.alloc (Obj.cells #[Value.slice a0_0 n0_0 c0_0] 76)).cell? ⟨w.heap.size, 0, none⟩ = some (.slice a0_0 n0_0 c0_0) := by simp [go_sem]
    refine (szPathB _ _ _ z0_0 w.heap.size _ _ (h0_0.mk M0 (Nat.le_refl _) (.inr (Nat.le_refl _))) M0.size (by omega) (by omega) (by omega) m0_0).mono ?_
    rintro e w1 ⟨rfl, m1⟩
    go_wp2_with fail
    go_ret
    exact ⟨rfl, (M0.trans m1).below0⟩
  have hn0 : ((szPathPart z0_0 n0_0 : Nat) : Int) ≤ (1048576 : Int) := by omega
  clear hbig0
  go_enter Try.func13, Try.ntmps13
  go_wp2_with fail
  have M0 : Mk0 w (w.alloc (Obj.cells #[Value.slice a0_0 n0_0 c0_0] 76)) := (Mk.alloc w _)
  have k0_0 : (w.alloc (Obj.cells #[Value.slice a0_0 n0_0 c0_0] 76)).cell? ⟨w.heap.size, 0, none⟩ = some (.slice a0_0 n0_0 c0_0) := by simp [go_sem]
  refine (szPathC _ _ _ z0_0 w.heap.size _ _ (h0_0.mk M0 (Nat.le_refl _) (.inr (Nat.le_refl _))) M0.size (by omega) (by omega) (by omega)).mono ?_
  rintro e w1 ⟨l1, hl1, rfl, m1⟩
  have M1 := M0.trans m1
  replace k0_0 := m1.cellAt k0_0
  have z1 := m1.size
  simp only [World.size_alloc] at z1
  go_wp2_with fail
  refine (toPathC _ _ _ _ w.heap.size _ (h0_0.mk M1 (Nat.le_refl _) (.inr (Nat.le_refl _))) (by omega) (by omega)).mono ?_
  rintro e w2 ⟨b1, rfl, o2, g3, m2⟩
  have M2 := M1.trans m2
  have z2 := m2.size
  replace k0_0 := m2.cellAt k0_0
  have h4 := o2.has.mono (B' := w2.heap.size) (by omega)
  clear o2
  go_wp2_with fail
  refine (specPathSize _ n0_0 _ _ z0_0 _ h4 (by omega) (by omega)).mono ?_
  rintro e w3 ⟨rfl, m3⟩
  have M3 := M2.trans m3
  have z3 := m3.size
  replace k0_0 := m3.cellAt k0_0
  replace h4 := h4.mk m3 (by omega) (.inr (Nat.le_refl _))
  go_wp2_with fail
  refine (toPathC _ _ _ _ w.heap.size _ (h0_0.mk M3 (Nat.le_refl _) (.inr (Nat.le_refl _))) (by omega) (by omega)).mono ?_
  rintro e w4 ⟨b5, rfl, o6, g7, m4⟩
  have M4 := M3.trans m4
  have z4 := m4.size
  replace k0_0 := m4.cellAt k0_0
  have h8 := o6.has.mono (B' := w4.heap.size) (by omega)
  clear o6
  go_wp2_with fail
  have xx0_0 : (w4.alloc (Obj.cells #[Value.slice (some ⟨b5, 0, none⟩) n0_0 n0_0] 81)).cell? ⟨w4.heap.size, 0, none⟩ = some (.slice (some ⟨b5, 0, none⟩) n0_0 n0_0) := by rw [World.cell?_alloc_at _ _ _ _ rfl]; rfl
  refine (implPathSize _ n0_0 _ _ z0_0 _ (h8.mk (Mk.alloc _ _) (by omega) (.inr (Nat.le_refl _))) (by rw [World.size_alloc]; omega) (by omega)).mono ?_
  rintro e w5 ⟨rfl, m5⟩
  replace xx0_0 := m5.cellAt xx0_0
  replace m5 := (Mk.alloc w4 _).trans m5
  have M5 := M4.trans m5
  have z5 := m5.size
  replace k0_0 := m5.cellAt k0_0
  replace h8 := h8.mk m5 (by omega) (.inr (Nat.le_refl _))
  go_wp2_with fail
  have e9 : ∀ w', Mk0 w5 w' → HasPathPart w' w4.heap.size (some ⟨b5, 0, none⟩) n0_0 z0_0 := fun w' m => h8.mk m (by omega) (.inr (Nat.le_refl _))
  have e10 : ∀ w', Mk0 w5 w' → w4.heap.size ≤ w'.heap.size := fun w' m => Nat.le_trans (by omega) m.size
  have e11 : ∀ w', Mk0 w5 w' → HasPathPart w' w.heap.size a0_0 n0_0 z0_0 := fun w' m => h0_0.mk (M5.trans m) (Nat.le_refl _) (.inr (Nat.le_refl _))
  have hN0_0 : szPathPart z0_0 n0_0 ≤ 1048576 := by omega
  go_region_held3 (fun w' => Mk0 w5 w' ∧ w'.cell? ⟨w.heap.size, 0, none⟩ = some (.slice a0_0 n0_0 c0_0) ∧ w'.cell? ⟨w4.heap.size, 0, none⟩ = some (.slice (some ⟨b5, 0, none⟩) n0_0 n0_0)) (first | exact ⟨Mk.drew1 _, k0_0, xx0_0⟩ | (obtain ⟨s0, s1, s2⟩ := ‹Mk0 w5 _ ∧ _›; exact ⟨s0.trans mm, mm.cellAt s1, mm.cellAt s2⟩)) (first | (go_at_call 48; refine (toPathC _ _ _ _ w.heap.size _ (e11 _ (‹Mk0 w5 _ ∧ _›).1) (M5.trans (‹Mk0 w5 _ ∧ _›).1).size hN0_0).mono ?_; rintro e wa ⟨bb0, rfl, oo0, gg0, mm⟩) | (go_at_call 50; refine (eqPathC _ _ _ _ _ _ _ _ _ (e9 _ (‹Mk0 w5 _ ∧ _›).1) (oo0.has.mono (Nat.le_refl _)) (e10 _ (‹Mk0 w5 _ ∧ _›).1) (Nat.le_refl _) hN0_0).mono ?_; rintro e wb6 ⟨rfl, mm⟩))
  obtain ⟨m6, k0_0, xx0_0⟩ := ‹Mk0 w5 _ ∧ _›
  clear e9 e10 e11 hN0_0
  refine ‹∀ (a : Act) (w : World), _ → _› _ _ ?_
  have M6 := M5.trans m6
  have z6 := m6.size
  replace h8 := h8.mk m6 (by omega) (.inr (Nat.le_refl _))
  go_wp2_with fail
  go_ret
  exact ⟨rfl, M6.below0⟩

set_option maxRecDepth 100000 in
theorem lifted (os : Os) (started : os.Started) (H : Type) (enc : TypeId × Value → H) :
    ReturnsInHanded {} Try.checked os 13 .any (Rows.fnExactPathSizeSpec.pre6 enc Try.prog Try.f13 Rows.fnExactPathSizeRow.domain false) (Rows.fnExactPathSizeSpec.post enc Try.prog Try.f13 false true false false) := by
  refine returnsInHanded_of_change (C := Try.checked) own started (by kernel_rfl) Try.func13
    (ChangeSpec.witness6 (enc := enc) (C := Try.checked) false ⟨#[], #[.agg #[.slice none 0 0]], []⟩ 8 (by kernel_rfl) (by kernel_rfl) (by kernel_rfl) (by kernel_rfl)) ?_
  intro W base args ds gs before hval0 hW hcnd _
  have hval : ∀ (j : Nat) t v, Try.f13.params[j]? = some t → args[j]? = some v → Value.okWide Try.prog W .any base t v := hval0
  have hW' := hW
  obtain ⟨p, q, hA0, hV, rfl, hfz, hnd⟩ := hW
  have hA : DataW.TrodAll enc Try.prog W 0 (fun _ => true) true Try.f13.params.toList args.toList ds p := hA0
  rw [Try.params13] at hA hval
  obtain ⟨v0, vs0, d0, ds0, p0, q0, hargs, rfl, rfl, h0, r0⟩ := trodAll_cons hA
  obtain ⟨rfl, rfl, rfl⟩ := trodAll_nil r0
  obtain rfl : args = #[v0] := by cases args; simp_all
  obtain ⟨rfl, rfl⟩ := trodVars_none hV
  have k0 := h0
  have lt0 : ∀ x ∈ p0, x.block < W.heap.size := by obtain ⟨m, hm⟩ := k0; exact DataW.trod_lt m _ _ _ hm
  obtain ⟨cs0, rfl, hcs0, hf0⟩ := open_agg Try.underlying76 (by kernel_rfl) (by kernel_rfl) (hval 0 76 v0 rfl rfl) h0
  obtain ⟨_, _, _, e0_0, q0_0⟩ := hf0 0 _ rfl
  obtain ⟨a0_0, n0_0, c0_0, z0_0, rfl, m0_0, h0_0, f0_0⟩ := openPathPartS q0_0
  obtain rfl : cs0 = #[.slice a0_0 n0_0 c0_0] := arr_of [.slice a0_0 n0_0 c0_0] hcs0 (fun j hj => by match j, hj with | 0, _ => exact e0_0)
  clear hA0 hval0
  refine (walk a0_0 n0_0 c0_0 z0_0 W h0_0 m0_0 f0_0).mono fun e W' ⟨he, bel⟩ => ?_
  subst he
  exact ⟨_, rfl, _, _, _, [], _, [], hW', trodAll_mk1 (shut_bool Try.underlying4 _), (trodAll_cons_mk (Below.trod laidOut (by kernel_rfl) (of_decide_eq_true (by kernel_rfl)) k0 bel lt0) trodAll_mk0), rfl, bel.frame _, fun h => by cases h⟩

theorem over : Rows.fnExactPathSizeRow.holds Try.pinned (OpenSpec.ofChange Rows.fnExactPathSizeSpec) :=
  OpenClaim.holds_of_wide 13 Try.f13 rfl rfl rfl rfl rfl rfl rfl ⟨rfl, rfl, rfl, rfl, rfl⟩ rfl rfl rfl rfl rfl (by kernel_rfl) Try.func13 (by kernel_rfl)
    (of_decide_eq_true (by kernel_rfl)) (by unfold Func.isWrapper; first | (rw [if_pos (by decide +kernel)]; kernel_rfl) | (rw [if_neg (by decide +kernel)]; exact ⟨rfl, rfl⟩))
    (fun os started H enc _ => lifted os started H enc)

theorem proved : Rows.FnExactPathSizeSaid := over
#print axioms proved
end Go.Proofs.Ytpiilbcdiejjfaa.fnExactPathSize
