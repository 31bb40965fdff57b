
/- For every path, the law on EgressSteps returns true; no further condition. -/
import Derived.Test.YtldnfjpdhmjhoaaRows
import Derived.WalkKit
import Derived.ProofKit
import Derived.OpenShut
import Derived.ShutString
import Derived.ChangeOld
import Derived.Below
import Derived.Test.YtldnfjpdhmjhoaaOPathPart
import Derived.Test.YtldnfjpdhmjhoaaStruct
import Derived.Deep.RegionHeld3
import Derived.Test.YtldnfjpdhmjhoaaEgP
import Derived.Test.YtldnfjpdhmjhoaaKPath
import Derived.Test.YtldnfjpdhmjhoaaHStep
namespace Go.Proofs.Ytldnfjpdhmjhoaa.fnExactEgressSteps
open Go.ChangeShapes Go.WideShapes Go.ChangeAt Go.RowKit
open Go.ChangeMaps (open_string shut_string)
set_option linter.unusedVariables false

theorem own : ownKnob Try.prog.godebug = none := by kernel_rfl
theorem laidOut : laidOutB Try.prog = true := by kernel_rfl

set_option maxRecDepth 100000 in
set_option maxHeartbeats 4000000 in
theorem walk (a0_0 : Option Addr) (n0_0 c0_0 : Nat) (z0_0 : List TPathPart) (w : World) (h0_0 : HasPathPart w w.heap.size a0_0 n0_0 z0_0) (m0_0 : n0_0 ≤ 9223372036854775807) (f0_0 : ∀ x ∈ z0_0, TPathPart.fits x) :
    Calls Try.prog 3 #[.agg #[.slice a0_0 n0_0 c0_0]] w fun e w' => e = .returned (.bool true) ∧ Below w.heap.size w w' := by
  by_cases hbig0 : (1048576 : Int) < ((szPathPart z0_0 n0_0 : Nat) : Int)
  · go_enter Try.func3, Try.ntmps3
    go_wp2_with fail
    have M0 : Mk0 w (w.alloc (Obj.cells #[Value.slice a0_0 n0_0 c0_0] 24)) := (Mk.alloc w _)
    have k0_0 : (w.alloc (Obj.cells #[Value.slice a0_0 n0_0 c0_0] 24)).cell? ⟨w.heap.size, 0, none⟩ = some (.slice a0_0 n0_0 c0_0) := by simp [go_sem]
    refine (szPathB _ _ _ z0_0 w.heap.size _ _ (h0_0.mk M0 (Nat.le_refl _) (.inr (Nat.le_refl _))) M0.size (by omega) (by omega) (by omega) m0_0).mono ?_
    rintro e w1 ⟨rfl, m1⟩
    go_wp2_with fail
    go_ret
    exact ⟨rfl, (M0.trans m1).below0⟩
  have hn0 : ((szPathPart z0_0 n0_0 : Nat) : Int) ≤ (1048576 : Int) := by omega
  clear hbig0
  go_enter Try.func3, Try.ntmps3
  go_wp2_with fail
  have M0 : Mk0 w (w.alloc (Obj.cells #[Value.slice a0_0 n0_0 c0_0] 24)) := (Mk.alloc w _)
  have k0_0 : (w.alloc (Obj.cells #[Value.slice a0_0 n0_0 c0_0] 24)).cell? ⟨w.heap.size, 0, none⟩ = some (.slice a0_0 n0_0 c0_0) := by simp [go_sem]
  refine (szPathC _ _ _ z0_0 w.heap.size _ _ (h0_0.mk M0 (Nat.le_refl _) (.inr (Nat.le_refl _))) M0.size (by omega) (by omega) (by omega)).mono ?_
  rintro e w1 ⟨l1, hl1, rfl, m1⟩
  have M1 := M0.trans m1
  replace k0_0 := m1.cellAt k0_0
  have z1 := m1.size
  simp only [World.size_alloc] at z1
  go_wp2_with fail
  refine (toPathC _ _ _ _ w.heap.size _ (h0_0.mk M1 (Nat.le_refl _) (.inr (Nat.le_refl _))) (by omega) (by omega)).mono ?_
  rintro e w2 ⟨b1, rfl, o2, g3, m2⟩
  have M2 := M1.trans m2
  have z2 := m2.size
  replace k0_0 := m2.cellAt k0_0
  have h4 := o2.has.mono (B' := w2.heap.size) (by omega)
  clear o2
  go_wp2_with fail
  refine (specEgress _ _ _ _ z0_0 _ h4 (by omega) (by omega)).mono ?_
  rintro e w3 ⟨A3, N3, c3, rfl, hc3, ow0, m3⟩
  clear hc3
  have hbw0 : N3 ≤ 2097152 := (by have h1 := ow0.1; have h2 := filtUp_le leaves (pathSt z0_0 n0_0) (pathSt z0_0 n0_0).length; have h3 := pathSt_le z0_0 n0_0; omega)
  have M3 := M2.trans m3
  have z3 := m3.size
  replace k0_0 := m3.cellAt k0_0
  replace h4 := h4.mk m3 (by omega) (.inr (Nat.le_refl _))
  go_wp2_with fail
  refine (toPathC _ _ _ _ w.heap.size _ (h0_0.mk M3 (Nat.le_refl _) (.inr (Nat.le_refl _))) (by omega) (by omega)).mono ?_
  rintro e w4 ⟨b5, rfl, o6, g7, m4⟩
  have M4 := M3.trans m4
  have z4 := m4.size
  replace k0_0 := m4.cellAt k0_0
  replace ow0 := ow0.mk m4 (by omega) (.inr (.inr (Nat.le_refl _)))
  have h8 := o6.has.mono (B' := w4.heap.size) (by omega)
  go_wp2_with fail
  have xx_0 : (w4.alloc (Obj.cells #[Value.slice (some ⟨b5, 0, none⟩) n0_0 n0_0] 30)).cell? ⟨w4.heap.size, 0, none⟩ = some (.slice (some ⟨b5, 0, none⟩) n0_0 n0_0) := by rw [World.cell?_alloc_at _ _ _ _ rfl]; rfl
  have m5 := Mk.alloc w4 (Obj.cells #[Value.slice (some ⟨b5, 0, none⟩) n0_0 n0_0] 30)
  replace k0_0 := m5.cellAt k0_0
  replace h8 := h8.mk m5 (by omega) (.inr (Nat.le_refl _))
  replace o6 := o6.mk m5 (by omega) (.inr (.inr (Nat.le_refl _)))
  replace ow0 := ow0.mk m5 (by omega) (.inr (.inr (Nat.le_refl _)))
  have M5 := M4.trans m5
  have z5 := m5.size
  have zz5 : w4.heap.size < (w4.alloc (Obj.cells #[Value.slice (some ⟨b5, 0, none⟩) n0_0 n0_0] 30)).heap.size := by rw [World.size_alloc]; omega
  generalize (w4.alloc (Obj.cells #[Value.slice (some ⟨b5, 0, none⟩) n0_0 n0_0] 30)) = w5 at *
  refine (implEgress _ _ _ _ z0_0 _ h8 (by omega) (by omega)).mono ?_
  rintro e w6 ⟨A6, N6, c6, rfl, hc6, og0, m6⟩
  clear hc6
  obtain rfl : N3 = N6 := ow0.1.symm.trans og0.1
  have M6 := M5.trans m6
  have z6 := m6.size
  replace k0_0 := m6.cellAt k0_0
  replace xx_0 := m6.cellAt xx_0
  replace h8 := h8.mk m6 (by omega) (.inr (Nat.le_refl _))
  replace o6 := o6.mk m6 (by omega) (.inr (.inr (Nat.le_refl _)))
  replace ow0 := ow0.mk m6 (by omega) (.inr (.inr (Nat.le_refl _)))
  go_wp2_with fail
  refine (eqStepS _ _ _ _ _ _ _ _ _ og0.has ow0.has (by omega) (by omega) (by omega)).mono ?_
  rintro e w7 ⟨rfl, m7⟩
  have M7 := M6.trans m7
  have z7 := m7.size
  replace k0_0 := m7.cellAt k0_0
  replace xx_0 := m7.cellAt xx_0
  replace h8 := h8.mk m7 (by omega) (.inr (Nat.le_refl _))
  replace o6 := o6.mk m7 (by omega) (.inr (.inr (Nat.le_refl _)))
  replace ow0 := ow0.mk m7 (by omega) (.inr (.inr (Nat.le_refl _)))
  replace og0 := og0.mk m7 (by omega) (.inr (.inr (Nat.le_refl _)))
  go_wp2_with fail
  have e9 : ∀ w', Mk0 w7 w' → HasPathPart w' w4.heap.size (some ⟨b5, 0, none⟩) n0_0 z0_0 := fun w' m => h8.mk m (by omega) (.inr (Nat.le_refl _))
  have e10 : ∀ w', Mk0 w7 w' → w4.heap.size ≤ w'.heap.size := fun w' m => Nat.le_trans (by omega) m.size
  have e11 : ∀ w', Mk0 w7 w' → HasPathPart w' w.heap.size a0_0 n0_0 z0_0 := fun w' m => h0_0.mk (M7.trans m) (Nat.le_refl _) (.inr (Nat.le_refl _))
  have hN0_0 : szPathPart z0_0 n0_0 ≤ 1048576 := by omega
  go_region_held3 (fun w' => Mk0 w7 w' ∧ w'.cell? ⟨w.heap.size, 0, none⟩ = some (.slice a0_0 n0_0 c0_0) ∧ w'.cell? ⟨w4.heap.size, 0, none⟩ = some (.slice (some ⟨b5, 0, none⟩) n0_0 n0_0)) (first | exact ⟨Mk.drew1 _, k0_0, xx_0⟩ | (obtain ⟨s0, s1, s2⟩ := ‹Mk0 w7 _ ∧ _›; exact ⟨s0.trans mm, mm.cellAt s1, mm.cellAt s2⟩)) (first | (go_at_call 9; refine (toPathC _ _ _ _ w.heap.size _ (e11 _ (‹Mk0 w7 _ ∧ _›).1) (M7.trans (‹Mk0 w7 _ ∧ _›).1).size hN0_0).mono ?_; rintro e wa ⟨bb0, rfl, oo0, gg0, mm⟩) | (go_at_call 12; refine (eqPathC _ _ _ _ _ _ _ _ _ (e9 _ (‹Mk0 w7 _ ∧ _›).1) (oo0.has.mono (Nat.le_refl _)) (e10 _ (‹Mk0 w7 _ ∧ _›).1) (Nat.le_refl _) hN0_0).mono ?_; rintro e wb8 ⟨rfl, mm⟩))
  obtain ⟨m8, k0_0, xx_0⟩ := ‹Mk0 w7 _ ∧ _›
  clear e9 e10 e11 hN0_0
  refine ‹∀ (a : Act) (w : World), _ → _› _ _ ?_
  have M8 := M7.trans m8
  have z8 := m8.size
  replace h8 := h8.mk m8 (by omega) (.inr (Nat.le_refl _))
  replace o6 := o6.mk m8 (by omega) (.inr (.inr (Nat.le_refl _)))
  replace ow0 := ow0.mk m8 (by omega) (.inr (.inr (Nat.le_refl _)))
  replace og0 := og0.mk m8 (by omega) (.inr (.inr (Nat.le_refl _)))
  go_wp2_with fail
  refine (markPathC _ _ _ _ w3.heap.size w4.heap.size _ _ o6 (by omega) (by omega) (by omega) (by omega) (by omega)).mono ?_
  rintro e w9 ⟨l9, hl9, rfl, m9⟩
  have M9 := M8.andR m9 (.inl (by omega))
  have z9 := m9.size
  replace k0_0 := m9.cellAtR k0_0 (by omega)
  replace xx_0 := m9.cellAtR xx_0 (by omega)
  replace ow0 := ow0.mk m9 (by omega) (by omega)
  replace og0 := og0.mk m9 (by omega) (by omega)
  go_wp2_with fail
  refine (eqStepS _ _ _ _ _ _ _ _ _ og0.has ow0.has (by omega) (by omega) (by omega)).mono ?_
  rintro e w10 ⟨rfl, m10⟩
  have M10 := M9.trans m10
  have z10 := m10.size
  replace k0_0 := m10.cellAt k0_0
  replace xx_0 := m10.cellAt xx_0
  replace ow0 := ow0.mk m10 (by omega) (.inr (.inr (Nat.le_refl _)))
  replace og0 := og0.mk m10 (by omega) (.inr (.inr (Nat.le_refl _)))
  go_wp2_with fail
  refine (markStepM _ _ _ w5.heap.size w6.heap.size _ _ _ og0 (by omega) (by omega) (by omega)).mono ?_
  rintro e w11 ⟨rfl, oo11, m11⟩
  replace og0 := oo11
  clear oo11
  have M11 := M10.andR m11 (.inl (by omega))
  have z11 := m11.size
  replace k0_0 := m11.cellAtR k0_0 (by omega)
  replace xx_0 := m11.cellAtR xx_0 (by omega)
  replace ow0 := ow0.mk m11 (by omega) (by omega)
  go_wp2_with fail
  refine (heldStepM _ _ _ _ _ _ og0.has (by omega) (by omega) (by omega)).mono ?_
  rintro e w' ⟨rfl, rfl⟩
  go_wp2_with fail
  refine (toPathC _ _ _ _ w.heap.size _ (h0_0.mk M11 (Nat.le_refl _) (.inr (Nat.le_refl _))) (by omega) (by omega)).mono ?_
  rintro e w12 ⟨b12, rfl, o13, g14, m12⟩
  have M12 := M11.trans m12
  have z12 := m12.size
  replace k0_0 := m12.cellAt k0_0
  replace xx_0 := m12.cellAt xx_0
  replace ow0 := ow0.mk m12 (by omega) (.inr (.inr (Nat.le_refl _)))
  replace og0 := og0.mk m12 (by omega) (.inr (.inr (Nat.le_refl _)))
  have h15 := o13.has.mono (B' := w12.heap.size) (by omega)
  clear o13
  go_wp2_with fail
  refine (implEgress _ _ _ _ z0_0 _ h15 (by omega) (by omega)).mono ?_
  rintro e w13 ⟨A13, N13, c13, rfl, hc13, oh0, m13⟩
  clear hc13
  obtain rfl : N3 = N13 := ow0.1.symm.trans oh0.1
  have M13 := M12.trans m13
  have z13 := m13.size
  replace k0_0 := m13.cellAt k0_0
  replace xx_0 := m13.cellAt xx_0
  replace h15 := h15.mk m13 (by omega) (.inr (Nat.le_refl _))
  replace ow0 := ow0.mk m13 (by omega) (.inr (.inr (Nat.le_refl _)))
  replace og0 := og0.mk m13 (by omega) (.inr (.inr (Nat.le_refl _)))
  go_wp2_with fail
  refine (eqStepS _ _ _ _ _ _ _ _ _ oh0.has ow0.has (by omega) (by omega) (by omega)).mono ?_
  rintro e w14 ⟨rfl, m14⟩
  have M14 := M13.trans m14
  have z14 := m14.size
  replace k0_0 := m14.cellAt k0_0
  replace xx_0 := m14.cellAt xx_0
  replace ow0 := ow0.mk m14 (by omega) (.inr (.inr (Nat.le_refl _)))
  replace og0 := og0.mk m14 (by omega) (.inr (.inr (Nat.le_refl _)))
  replace oh0 := oh0.mk m14 (by omega) (.inr (.inr (Nat.le_refl _)))
  go_wp2_with fail
  refine (heldStepM _ _ _ _ _ _ og0.has (by omega) (by omega) (by omega)).mono ?_
  rintro e w' ⟨rfl, rfl⟩
  go_wp2_with fail
  go_ret
  exact ⟨rfl, M14.below0⟩

set_option maxRecDepth 100000 in
theorem lifted (os : Os) (started : os.Started) (H : Type) (enc : TypeId × Value → H) :
    ReturnsInHanded {} Try.checked os 3 .any (Rows.fnExactEgressStepsSpec.pre6 enc Try.prog Try.f3 Rows.fnExactEgressStepsRow.domain false) (Rows.fnExactEgressStepsSpec.post enc Try.prog Try.f3 false true false false) := by
  refine returnsInHanded_of_change (C := Try.checked) own started (by kernel_rfl) Try.func3
    (ChangeSpec.witness6 (enc := enc) (C := Try.checked) false ⟨#[], #[.agg #[.slice none 0 0]], []⟩ 8 (by kernel_rfl) (by kernel_rfl) (by kernel_rfl) (by kernel_rfl)) ?_
  intro W base args ds gs before hval0 hW hcnd _
  have hval : ∀ (j : Nat) t v, Try.f3.params[j]? = some t → args[j]? = some v → Value.okWide Try.prog W .any base t v := hval0
  have hW' := hW
  obtain ⟨p, q, hA0, hV, rfl, hfz, hnd⟩ := hW
  have hA : DataW.TrodAll enc Try.prog W 0 (fun _ => true) true Try.f3.params.toList args.toList ds p := hA0
  rw [Try.params3] at hA hval
  obtain ⟨v0, vs0, d0, ds0, p0, q0, hargs, rfl, rfl, h0, r0⟩ := trodAll_cons hA
  obtain ⟨rfl, rfl, rfl⟩ := trodAll_nil r0
  obtain rfl : args = #[v0] := by cases args; simp_all
  obtain ⟨rfl, rfl⟩ := trodVars_none hV
  have k0 := h0
  have lt0 : ∀ x ∈ p0, x.block < W.heap.size := by obtain ⟨m, hm⟩ := k0; exact DataW.trod_lt m _ _ _ hm
  obtain ⟨cs0, rfl, hcs0, hf0⟩ := open_agg Try.underlying24 (by kernel_rfl) (by kernel_rfl) (hval 0 24 v0 rfl rfl) h0
  obtain ⟨_, _, _, e0_0, q0_0⟩ := hf0 0 _ rfl
  obtain ⟨a0_0, n0_0, c0_0, z0_0, rfl, m0_0, h0_0, f0_0⟩ := openPathPartS q0_0
  obtain rfl : cs0 = #[.slice a0_0 n0_0 c0_0] := arr_of [.slice a0_0 n0_0 c0_0] hcs0 (fun j hj => by match j, hj with | 0, _ => exact e0_0)
  clear hA0 hval0
  refine (walk a0_0 n0_0 c0_0 z0_0 W h0_0 m0_0 f0_0).mono fun e W' ⟨he, bel⟩ => ?_
  subst he
  exact ⟨_, rfl, _, _, _, [], _, [], hW', trodAll_mk1 (shut_bool Try.underlying4 _), (trodAll_cons_mk (Below.trod laidOut (by kernel_rfl) (of_decide_eq_true (by kernel_rfl)) k0 bel lt0) trodAll_mk0), rfl, bel.frame _, fun h => by cases h⟩

theorem over : Rows.fnExactEgressStepsRow.holds Try.pinned (OpenSpec.ofChange Rows.fnExactEgressStepsSpec) :=
  OpenClaim.holds_of_wide 3 Try.f3 rfl rfl rfl rfl rfl rfl rfl ⟨rfl, rfl, rfl, rfl, rfl⟩ rfl rfl rfl rfl rfl (by kernel_rfl) Try.func3 (by kernel_rfl)
    (of_decide_eq_true (by kernel_rfl)) (by unfold Func.isWrapper; first | (rw [if_pos (by decide +kernel)]; kernel_rfl) | (rw [if_neg (by decide +kernel)]; exact ⟨rfl, rfl⟩))
    (fun os started H enc _ => lifted os started H enc)

theorem proved : Rows.FnExactEgressStepsSaid := over
#print axioms proved
end Go.Proofs.Ytldnfjpdhmjhoaa.fnExactEgressSteps
