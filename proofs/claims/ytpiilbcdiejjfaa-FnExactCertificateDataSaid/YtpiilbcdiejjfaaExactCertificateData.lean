
/- For every certificate, the law on CertificateData returns true; no further condition. -/
import Derived.Test.YtpiilbcdiejjfaaRows
import Derived.WalkKit
import Derived.ProofKit
import Derived.OpenShut
import Derived.ShutString
import Derived.ChangeOld
import Derived.Below
import Derived.Test.YtpiilbcdiejjfaaOpenN
import Derived.Test.YtpiilbcdiejjfaaStruct
import Derived.Deep.RegionHeld3
import Derived.Test.YtpiilbcdiejjfaaCData
import Derived.Test.YtpiilbcdiejjfaaIntMark
import Derived.Test.YtpiilbcdiejjfaaSSignature
namespace Go.Proofs.Ytpiilbcdiejjfaa.fnExactCertificateData
open Go.ChangeShapes Go.WideShapes Go.ChangeAt Go.RowKit
open Go.ChangeMaps (open_string shut_string)
set_option linter.unusedVariables false

theorem own : ownKnob Try.prog.godebug = none := by kernel_rfl
theorem laidOut : laidOutB Try.prog = true := by kernel_rfl

set_option maxRecDepth 100000 in
set_option maxHeartbeats 4000000 in
theorem walk (a0_0 : Int) (a0_1 : Int) (a0_2 : Int) (a0_3 : Int) (a0_4 : Int) (a0_5 : Int) (a0_6 : Int) (w : World) (w0_0 : (Lit.int .i64 a0_0).wf = true) (w0_1 : (Lit.int .i64 a0_1).wf = true) (w0_2 : (Lit.int .i64 a0_2).wf = true) (w0_3 : (Lit.int .i64 a0_3).wf = true) (w0_4 : (Lit.int .i64 a0_4).wf = true) (w0_5 : (Lit.int .i64 a0_5).wf = true) (w0_6 : (Lit.int .i64 a0_6).wf = true) :
    Calls Try.prog 8 #[.agg #[.int .i64 a0_0, .int .i64 a0_1, .int .i64 a0_2, .int .i64 a0_3, .int .i64 a0_4, .int .i64 a0_5, .int .i64 a0_6]] w fun e w' => e = .returned (.bool true) ∧ Below w.heap.size w w' := by
  go_enter Try.func8, Try.ntmps8
  go_wp2_with fail
  have M0 : Mk0 w (w.alloc (Obj.cells #[Value.int .i64 a0_0, Value.int .i64 a0_1, Value.int .i64 a0_2, Value.int .i64 a0_3, Value.int .i64 a0_4, Value.int .i64 a0_5, Value.int .i64 a0_6] 58)) := (Mk.alloc w _)
  have k0_0 : (w.alloc (Obj.cells #[Value.int .i64 a0_0, Value.int .i64 a0_1, Value.int .i64 a0_2, Value.int .i64 a0_3, Value.int .i64 a0_4, Value.int .i64 a0_5, Value.int .i64 a0_6] 58)).cell? ⟨w.heap.size, 0, none⟩ = some (.int .i64 a0_0) := by simp [go_sem]
  have k0_1 : (w.alloc (Obj.cells #[Value.int .i64 a0_0, Value.int .i64 a0_1, Value.int .i64 a0_2, Value.int .i64 a0_3, Value.int .i64 a0_4, Value.int .i64 a0_5, Value.int .i64 a0_6] 58)).cell? ⟨w.heap.size, 1, none⟩ = some (.int .i64 a0_1) := by simp [go_sem]
  have k0_2 : (w.alloc (Obj.cells #[Value.int .i64 a0_0, Value.int .i64 a0_1, Value.int .i64 a0_2, Value.int .i64 a0_3, Value.int .i64 a0_4, Value.int .i64 a0_5, Value.int .i64 a0_6] 58)).cell? ⟨w.heap.size, 2, none⟩ = some (.int .i64 a0_2) := by simp [go_sem]
  have k0_3 : (w.alloc (Obj.cells #[Value.int .i64 a0_0, Value.int .i64 a0_1, Value.int .i64 a0_2, Value.int .i64 a0_3, Value.int .i64 a0_4, Value.int .i64 a0_5, Value.int .i64 a0_6] 58)).cell? ⟨w.heap.size, 3, none⟩ = some (.int .i64 a0_3) := by simp [go_sem]
  have k0_4 : (w.alloc (Obj.cells #[Value.int .i64 a0_0, Value.int .i64 a0_1, Value.int .i64 a0_2, Value.int .i64 a0_3, Value.int .i64 a0_4, Value.int .i64 a0_5, Value.int .i64 a0_6] 58)).cell? ⟨w.heap.size, 4, none⟩ = some (.int .i64 a0_4) := by simp [go_sem]
  have k0_5 : (w.alloc (Obj.cells #[Value.int .i64 a0_0, Value.int .i64 a0_1, Value.int .i64 a0_2, Value.int .i64 a0_3, Value.int .i64 a0_4, Value.int .i64 a0_5, Value.int .i64 a0_6] 58)).cell? ⟨w.heap.size, 5, none⟩ = some (.int .i64 a0_5) := by simp [go_sem]
  have k0_6 : (w.alloc (Obj.cells #[Value.int .i64 a0_0, Value.int .i64 a0_1, Value.int .i64 a0_2, Value.int .i64 a0_3, Value.int .i64 a0_4, Value.int .i64 a0_5, Value.int .i64 a0_6] 58)).cell? ⟨w.heap.size, 6, none⟩ = some (.int .i64 a0_6) := by simp [go_sem]
  refine (toCertificateV a0_0 a0_1 a0_2 a0_3 a0_4 a0_5 a0_6 _).mono ?_
  rintro e w1 ⟨rfl, m1⟩
  have M1 := M0.trans m1
  replace k0_0 := m1.cellAt k0_0
  replace k0_1 := m1.cellAt k0_1
  replace k0_2 := m1.cellAt k0_2
  replace k0_3 := m1.cellAt k0_3
  replace k0_4 := m1.cellAt k0_4
  replace k0_5 := m1.cellAt k0_5
  replace k0_6 := m1.cellAt k0_6
  have z1 := m1.size
  simp only [World.size_alloc] at z1
  go_wp2_with fail
  refine (specCData a0_0 a0_1 a0_2 a0_3 a0_4 a0_5 a0_6 _).mono ?_
  rintro e w2 ⟨A2, N2, c2, rfl, hc2, oo2, bb2⟩
  have m2 := Mk.of_below bb2
  have ow0 := oo2.toR (hi := w2.heap.size) (Nat.le_refl _)
  clear oo2 bb2 hc2
  have hbw0 : N2 ≤ 1073741824 := by have := ow0.1; simp at this; omega
  have M2 := M1.trans m2
  have z2 := m2.size
  replace k0_0 := m2.cellAt k0_0
  replace k0_1 := m2.cellAt k0_1
  replace k0_2 := m2.cellAt k0_2
  replace k0_3 := m2.cellAt k0_3
  replace k0_4 := m2.cellAt k0_4
  replace k0_5 := m2.cellAt k0_5
  replace k0_6 := m2.cellAt k0_6
  go_wp2_with fail
  refine (toCertificateV a0_0 a0_1 a0_2 a0_3 a0_4 a0_5 a0_6 _).mono ?_
  rintro e w3 ⟨rfl, m3⟩
  have M3 := M2.trans m3
  have z3 := m3.size
  replace k0_0 := m3.cellAt k0_0
  replace k0_1 := m3.cellAt k0_1
  replace k0_2 := m3.cellAt k0_2
  replace k0_3 := m3.cellAt k0_3
  replace k0_4 := m3.cellAt k0_4
  replace k0_5 := m3.cellAt k0_5
  replace k0_6 := m3.cellAt k0_6
  replace ow0 := ow0.mk m3 (by omega) (.inr (.inr (Nat.le_refl _)))
  go_wp2_with fail
  refine (implCData a0_0 a0_1 a0_2 a0_3 a0_4 a0_5 a0_6 _).mono ?_
  rintro e w4 ⟨A4, N4, c4, rfl, hc4, oo4, bb4⟩
  have m4 := Mk.of_below bb4
  have og0 := oo4.toR (hi := w4.heap.size) (Nat.le_refl _)
  clear oo4 bb4 hc4
  obtain rfl : N2 = N4 := ow0.1.symm.trans og0.1
  have M4 := M3.trans m4
  have z4 := m4.size
  replace k0_0 := m4.cellAt k0_0
  replace k0_1 := m4.cellAt k0_1
  replace k0_2 := m4.cellAt k0_2
  replace k0_3 := m4.cellAt k0_3
  replace k0_4 := m4.cellAt k0_4
  replace k0_5 := m4.cellAt k0_5
  replace k0_6 := m4.cellAt k0_6
  replace ow0 := ow0.mk m4 (by omega) (.inr (.inr (Nat.le_refl _)))
  go_wp2_with fail
  refine (eqInt _ _ _ _ _ _ _ _ _ (hasR_int.1 og0.has) (hasR_int.1 ow0.has) hbw0).mono ?_
  rintro e w5 ⟨rfl, mm5, hw5⟩
  have m5 : Mk0 w4 w5 := by rw [hw5]; exact Mk.drewN _ _
  clear hw5
  have M5 := M4.trans m5
  have z5 := m5.size
  replace k0_0 := m5.cellAt k0_0
  replace k0_1 := m5.cellAt k0_1
  replace k0_2 := m5.cellAt k0_2
  replace k0_3 := m5.cellAt k0_3
  replace k0_4 := m5.cellAt k0_4
  replace k0_5 := m5.cellAt k0_5
  replace k0_6 := m5.cellAt k0_6
  replace ow0 := ow0.mk m5 (by omega) (.inr (.inr (Nat.le_refl _)))
  replace og0 := og0.mk m5 (by omega) (.inr (.inr (Nat.le_refl _)))
  go_wp2_with fail
  refine (markInt _ _ _ w3.heap.size _ _ _ (og0.int (by omega)) hbw0 (by omega) (by omega)).mono ?_
  rintro e w6 ⟨rfl, oo6, gg6⟩
  have m6 : Mk w3.heap.size w4.heap.size w5 w6 := Mk.of_grown gg6 og0.row
  replace og0 := Own.toR_far og0 oo6
  clear oo6 gg6
  have M6 := M5.andR m6 (.inl (by omega))
  have z6 := m6.size
  replace k0_0 := m6.cellAtR k0_0 (by omega)
  replace k0_1 := m6.cellAtR k0_1 (by omega)
  replace k0_2 := m6.cellAtR k0_2 (by omega)
  replace k0_3 := m6.cellAtR k0_3 (by omega)
  replace k0_4 := m6.cellAtR k0_4 (by omega)
  replace k0_5 := m6.cellAtR k0_5 (by omega)
  replace k0_6 := m6.cellAtR k0_6 (by omega)
  replace ow0 := ow0.mk m6 (by omega) (by omega)
  go_wp2_with fail
  refine (heldInt _ _ _ _ _ _ (hasR_int.1 og0.has) hbw0 (by omega) (by omega)).mono ?_
  rintro e w' ⟨rfl, rfl⟩
  go_wp2_with fail
  refine (toCertificateV a0_0 a0_1 a0_2 a0_3 a0_4 a0_5 a0_6 _).mono ?_
  rintro e w7 ⟨rfl, m7⟩
  have M7 := M6.trans m7
  have z7 := m7.size
  replace k0_0 := m7.cellAt k0_0
  replace k0_1 := m7.cellAt k0_1
  replace k0_2 := m7.cellAt k0_2
  replace k0_3 := m7.cellAt k0_3
  replace k0_4 := m7.cellAt k0_4
  replace k0_5 := m7.cellAt k0_5
  replace k0_6 := m7.cellAt k0_6
  replace ow0 := ow0.mk m7 (by omega) (.inr (.inr (Nat.le_refl _)))
  replace og0 := og0.mk m7 (by omega) (.inr (.inr (Nat.le_refl _)))
  go_wp2_with fail
  refine (implCData a0_0 a0_1 a0_2 a0_3 a0_4 a0_5 a0_6 _).mono ?_
  rintro e w8 ⟨A8, N8, c8, rfl, hc8, oo8, bb8⟩
  have m8 := Mk.of_below bb8
  have oh0 := oo8.toR (hi := w8.heap.size) (Nat.le_refl _)
  clear oo8 bb8 hc8
  obtain rfl : N2 = N8 := ow0.1.symm.trans oh0.1
  have M8 := M7.trans m8
  have z8 := m8.size
  replace k0_0 := m8.cellAt k0_0
  replace k0_1 := m8.cellAt k0_1
  replace k0_2 := m8.cellAt k0_2
  replace k0_3 := m8.cellAt k0_3
  replace k0_4 := m8.cellAt k0_4
  replace k0_5 := m8.cellAt k0_5
  replace k0_6 := m8.cellAt k0_6
  replace ow0 := ow0.mk m8 (by omega) (.inr (.inr (Nat.le_refl _)))
  replace og0 := og0.mk m8 (by omega) (.inr (.inr (Nat.le_refl _)))
  go_wp2_with fail
  refine (eqInt _ _ _ _ _ _ _ _ _ (hasR_int.1 oh0.has) (hasR_int.1 ow0.has) hbw0).mono ?_
  rintro e w9 ⟨rfl, mm9, hw9⟩
  have m9 : Mk0 w8 w9 := by rw [hw9]; exact Mk.drewN _ _
  clear hw9
  have M9 := M8.trans m9
  have z9 := m9.size
  replace k0_0 := m9.cellAt k0_0
  replace k0_1 := m9.cellAt k0_1
  replace k0_2 := m9.cellAt k0_2
  replace k0_3 := m9.cellAt k0_3
  replace k0_4 := m9.cellAt k0_4
  replace k0_5 := m9.cellAt k0_5
  replace k0_6 := m9.cellAt k0_6
  replace ow0 := ow0.mk m9 (by omega) (.inr (.inr (Nat.le_refl _)))
  replace og0 := og0.mk m9 (by omega) (.inr (.inr (Nat.le_refl _)))
  replace oh0 := oh0.mk m9 (by omega) (.inr (.inr (Nat.le_refl _)))
  go_wp2_with fail
  refine (heldInt _ _ _ _ _ _ (hasR_int.1 og0.has) hbw0 (by omega) (by omega)).mono ?_
  rintro e w' ⟨rfl, rfl⟩
  go_wp2_with fail
  go_ret
  exact ⟨rfl, M9.below0⟩

set_option maxRecDepth 100000 in
theorem lifted (os : Os) (started : os.Started) (H : Type) (enc : TypeId × Value → H) :
    ReturnsInHanded {} Try.checked os 8 .any (Rows.fnExactCertificateDataSpec.pre6 enc Try.prog Try.f8 Rows.fnExactCertificateDataRow.domain false) (Rows.fnExactCertificateDataSpec.post enc Try.prog Try.f8 false true false false) := by
  refine returnsInHanded_of_change (C := Try.checked) own started (by kernel_rfl) Try.func8
    (ChangeSpec.witness6 (enc := enc) (C := Try.checked) false ⟨#[], #[.agg #[.int .i64 0, .int .i64 0, .int .i64 0, .int .i64 0, .int .i64 0, .int .i64 0, .int .i64 0]], []⟩ 8 (by kernel_rfl) (by kernel_rfl) (by kernel_rfl) (by kernel_rfl)) ?_
  intro W base args ds gs before hval0 hW hcnd _
  have hval : ∀ (j : Nat) t v, Try.f8.params[j]? = some t → args[j]? = some v → Value.okWide Try.prog W .any base t v := hval0
  have hW' := hW
  obtain ⟨p, q, hA0, hV, rfl, hfz, hnd⟩ := hW
  have hA : DataW.TrodAll enc Try.prog W 0 (fun _ => true) true Try.f8.params.toList args.toList ds p := hA0
  rw [Try.params8] at hA hval
  obtain ⟨v0, vs0, d0, ds0, p0, q0, hargs, rfl, rfl, h0, r0⟩ := trodAll_cons hA
  obtain ⟨rfl, rfl, rfl⟩ := trodAll_nil r0
  obtain rfl : args = #[v0] := by cases args; simp_all
  obtain ⟨rfl, rfl⟩ := trodVars_none hV
  have k0 := h0
  have lt0 : ∀ x ∈ p0, x.block < W.heap.size := by obtain ⟨m, hm⟩ := k0; exact DataW.trod_lt m _ _ _ hm
  obtain ⟨cs0, rfl, hcs0, hl0⟩ := lf_open 7 Try.underlying58 (by kernel_rfl) (hval 0 58 v0 rfl rfl) h0
  have L0_0 := lf_field (a := 0) (b := 1) 0 _ Try.underlying58 rfl rfl (by kernel_rfl) (by decide) hl0
  obtain ⟨_, _, _, e0_0, q0_0⟩ := lf_leaf (o := 0) (by rw [hcs0]; decide) L0_0
  have L0_1 := lf_field (a := 1) (b := 1) 1 _ Try.underlying58 rfl rfl (by kernel_rfl) (by decide) hl0
  obtain ⟨_, _, _, e0_1, q0_1⟩ := lf_leaf (o := 1) (by rw [hcs0]; decide) L0_1
  have L0_2 := lf_field (a := 2) (b := 1) 2 _ Try.underlying58 rfl rfl (by kernel_rfl) (by decide) hl0
  obtain ⟨_, _, _, e0_2, q0_2⟩ := lf_leaf (o := 2) (by rw [hcs0]; decide) L0_2
  have L0_3 := lf_field (a := 3) (b := 1) 3 _ Try.underlying58 rfl rfl (by kernel_rfl) (by decide) hl0
  obtain ⟨_, _, _, e0_3, q0_3⟩ := lf_leaf (o := 3) (by rw [hcs0]; decide) L0_3
  have L0_4 := lf_field (a := 4) (b := 1) 4 _ Try.underlying58 rfl rfl (by kernel_rfl) (by decide) hl0
  obtain ⟨_, _, _, e0_4, q0_4⟩ := lf_leaf (o := 4) (by rw [hcs0]; decide) L0_4
  have L0_5 := lf_field (a := 5) (b := 2) 5 _ Try.underlying58 rfl rfl (by kernel_rfl) (by decide) hl0
  have L0_5x0 := lf_field (a := 0) (b := 1) 0 _ Try.underlying56 rfl rfl (by kernel_rfl) (by decide) L0_5
  obtain ⟨_, _, _, e0_5, q0_5⟩ := lf_leaf (o := 5) (by rw [hcs0]; decide) L0_5x0
  have L0_5x1 := lf_field (a := 1) (b := 1) 1 _ Try.underlying56 rfl rfl (by kernel_rfl) (by decide) L0_5
  obtain ⟨_, _, _, e0_6, q0_6⟩ := lf_leaf (o := 6) (by rw [hcs0]; decide) L0_5x1
  obtain ⟨a0_0, rfl, w0_0⟩ := one_int Try.underlying3 q0_0
  obtain ⟨a0_1, rfl, w0_1⟩ := one_int Try.underlying3 q0_1
  obtain ⟨a0_2, rfl, w0_2⟩ := one_int Try.underlying3 q0_2
  obtain ⟨a0_3, rfl, w0_3⟩ := one_int Try.underlying3 q0_3
  obtain ⟨a0_4, rfl, w0_4⟩ := one_int Try.underlying3 q0_4
  obtain ⟨a0_5, rfl, w0_5⟩ := one_int Try.underlying3 q0_5
  obtain ⟨a0_6, rfl, w0_6⟩ := one_int Try.underlying3 q0_6
  obtain rfl : cs0 = #[.int .i64 a0_0, .int .i64 a0_1, .int .i64 a0_2, .int .i64 a0_3, .int .i64 a0_4, .int .i64 a0_5, .int .i64 a0_6] := arr_of [.int .i64 a0_0, .int .i64 a0_1, .int .i64 a0_2, .int .i64 a0_3, .int .i64 a0_4, .int .i64 a0_5, .int .i64 a0_6] hcs0 (fun j hj => by match j, hj with | 0, _ => exact e0_0 | 1, _ => exact e0_1 | 2, _ => exact e0_2 | 3, _ => exact e0_3 | 4, _ => exact e0_4 | 5, _ => exact e0_5 | 6, _ => exact e0_6)
  clear hA0 hval0
  refine (walk a0_0 a0_1 a0_2 a0_3 a0_4 a0_5 a0_6 W w0_0 w0_1 w0_2 w0_3 w0_4 w0_5 w0_6).mono fun e W' ⟨he, bel⟩ => ?_
  subst he
  exact ⟨_, rfl, _, _, _, [], _, [], hW', trodAll_mk1 (shut_bool Try.underlying4 _), (trodAll_cons_mk (Below.trod laidOut (by kernel_rfl) (of_decide_eq_true (by kernel_rfl)) k0 bel lt0) trodAll_mk0), rfl, bel.frame _, fun h => by cases h⟩

theorem over : Rows.fnExactCertificateDataRow.holds Try.pinned (OpenSpec.ofChange Rows.fnExactCertificateDataSpec) :=
  OpenClaim.holds_of_wide 8 Try.f8 rfl rfl rfl rfl rfl rfl rfl ⟨rfl, rfl, rfl, rfl, rfl⟩ rfl rfl rfl rfl rfl (by kernel_rfl) Try.func8 (by kernel_rfl)
    (of_decide_eq_true (by kernel_rfl)) (by unfold Func.isWrapper; first | (rw [if_pos (by decide +kernel)]; kernel_rfl) | (rw [if_neg (by decide +kernel)]; exact ⟨rfl, rfl⟩))
    (fun os started H enc _ => lifted os started H enc)

theorem proved : Rows.FnExactCertificateDataSaid := over
#print axioms proved
end Go.Proofs.Ytpiilbcdiejjfaa.fnExactCertificateData
