
/- For every segment and index, the law on SignedData returns true; no further condition. -/
import Derived.Test.YtpiilbcdiejjfaaRows
import Derived.WalkKit
import Derived.ProofKit
import Derived.OpenShut
import Derived.ShutString
import Derived.ChangeOld
import Derived.Below
import Derived.Test.YtpiilbcdiejjfaaOHop
import Derived.Test.YtpiilbcdiejjfaaZHop
import Derived.Test.YtpiilbcdiejjfaaStruct
import Derived.Deep.RegionHeld3
import Derived.Test.YtpiilbcdiejjfaaSData
import Derived.Test.YtpiilbcdiejjfaaKSegment
import Derived.Test.YtpiilbcdiejjfaaIntMark
namespace Go.Proofs.Ytpiilbcdiejjfaa.fnExactSignedData
open Go.ChangeShapes Go.WideShapes Go.ChangeAt Go.RowKit
open Go.ChangeMaps (open_string shut_string)
set_option linter.unusedVariables false

theorem own : ownKnob Try.prog.godebug = none := by kernel_rfl
theorem laidOut : laidOutB Try.prog = true := by kernel_rfl

set_option maxRecDepth 100000 in
set_option maxHeartbeats 4000000 in
theorem walk (a0_0 : Int) (a0_1 : Int) (a0_2 : Option Addr) (n0_2 c0_2 : Nat) (z0_2 : List THop) (a1 : Int) (w : World) (w0_0 : (Lit.int .i64 a0_0).wf = true) (w0_1 : (Lit.int .i64 a0_1).wf = true) (h0_2 : HasHop w w.heap.size a0_2 n0_2 z0_2) (m0_2 : n0_2 ≤ 9223372036854775807) (f0_2 : ∀ x ∈ z0_2, THop.fits x) (w1 : (Lit.int .i64 a1).wf = true) :
    Calls Try.prog 7 #[.agg #[.int .i64 a0_0, .int .i64 a0_1, .slice a0_2 n0_2 c0_2], .int .i64 a1] w fun e w' => e = .returned (.bool true) ∧ Below w.heap.size w w' := by
  by_cases hbig0 : (1048576 : Int) < (n0_2 : Int)
  · go_enter Try.func7, Try.ntmps7
    go_wp2_with fail
    have M0 : Mk0 w (w.alloc (Obj.cells #[Value.int .i64 a0_0, Value.int .i64 a0_1, Value.slice a0_2 n0_2 c0_2] 38)) := (Mk.alloc w _)
    have k0_0 : (w.alloc (Obj.cells #[Value.int .i64 a0_0, Value.int .i64 a0_1, Value.slice a0_2 n0_2 c0_2] 38)).cell? ⟨w.heap.size, 0, none⟩ = some (.int .i64 a0_0) := by simp [go_sem]
    have k0_1 : (w.alloc (Obj.cells #[Value.int .i64 a0_0, Value.int .i64 a0_1, Value.slice a0_2 n0_2 c0_2] 38)).cell? ⟨w.heap.size, 1, none⟩ = some (.int .i64 a0_1) := by simp [go_sem]
    have k0_2 : (w.alloc (Obj.cells #[Value.int .i64 a0_0, Value.int .i64 a0_1, Value.slice a0_2 n0_2 c0_2] 38)).cell? ⟨w.heap.size, 2, none⟩ = some (.slice a0_2 n0_2 c0_2) := by simp [go_sem]
    refine (szSegmentB _ _ _ _ _ _ _ (by omega) (by omega) (by omega) m0_2).mono ?_
    rintro e w1 ⟨rfl, m1⟩
    go_wp2_with fail
    go_ret
    exact ⟨rfl, (M0.trans m1).below0⟩
  have hn0 : (n0_2 : Int) ≤ (1048576 : Int) := by omega
  clear hbig0
  go_enter Try.func7, Try.ntmps7
  go_wp2_with fail
  have M0 : Mk0 w (w.alloc (Obj.cells #[Value.int .i64 a0_0, Value.int .i64 a0_1, Value.slice a0_2 n0_2 c0_2] 38)) := (Mk.alloc w _)
  have k0_0 : (w.alloc (Obj.cells #[Value.int .i64 a0_0, Value.int .i64 a0_1, Value.slice a0_2 n0_2 c0_2] 38)).cell? ⟨w.heap.size, 0, none⟩ = some (.int .i64 a0_0) := by simp [go_sem]
  have k0_1 : (w.alloc (Obj.cells #[Value.int .i64 a0_0, Value.int .i64 a0_1, Value.slice a0_2 n0_2 c0_2] 38)).cell? ⟨w.heap.size, 1, none⟩ = some (.int .i64 a0_1) := by simp [go_sem]
  have k0_2 : (w.alloc (Obj.cells #[Value.int .i64 a0_0, Value.int .i64 a0_1, Value.slice a0_2 n0_2 c0_2] 38)).cell? ⟨w.heap.size, 2, none⟩ = some (.slice a0_2 n0_2 c0_2) := by simp [go_sem]
  refine (szSegmentC _ _ _ _ _ _ _ (by omega) (by omega) (by omega)).mono ?_
  rintro e w1 ⟨l1, hl1, rfl, m1⟩
  have M1 := M0.trans m1
  replace k0_0 := m1.cellAt k0_0
  replace k0_1 := m1.cellAt k0_1
  replace k0_2 := m1.cellAt k0_2
  have z1 := m1.size
  simp only [World.size_alloc] at z1
  go_wp2_with fail
  refine (toSegmentC _ _ _ _ _ _ w.heap.size _ (h0_2.mk M1 (Nat.le_refl _) (.inr (Nat.le_refl _))) (by omega) (by omega)).mono ?_
  rintro e w2 ⟨b1, rfl, o2, g3, m2⟩
  have M2 := M1.trans m2
  have z2 := m2.size
  replace k0_0 := m2.cellAt k0_0
  replace k0_1 := m2.cellAt k0_1
  replace k0_2 := m2.cellAt k0_2
  have h4 := o2.has.mono (B' := w2.heap.size) (by omega)
  clear o2
  go_wp2_with fail
  refine ((specSData _ _ _ _ _ _ z0_2 _ _ h4 (by omega) (by omega))).mono ?_
  rintro e w3 ⟨A3, N3, c3, rfl, hc3, oo3, bb3⟩
  have m3 := Mk.of_below bb3
  have ow0 := oo3.toR (hi := w3.heap.size) (Nat.le_refl _)
  clear oo3 bb3 hc3
  have hbw0 : N3 ≤ 1073741824 := by have := ow0.1; have h2 := sdata_len a0_0 a0_1 z0_2 n0_2 a1; omega
  have M3 := M2.trans m3
  have z3 := m3.size
  replace k0_0 := m3.cellAt k0_0
  replace k0_1 := m3.cellAt k0_1
  replace k0_2 := m3.cellAt k0_2
  replace h4 := h4.mk m3 (by omega) (.inr (Nat.le_refl _))
  go_wp2_with fail
  refine (toSegmentC _ _ _ _ _ _ w.heap.size _ (h0_2.mk M3 (Nat.le_refl _) (.inr (Nat.le_refl _))) (by omega) (by omega)).mono ?_
  rintro e w4 ⟨b5, rfl, o6, g7, m4⟩
  have M4 := M3.trans m4
  have z4 := m4.size
  replace k0_0 := m4.cellAt k0_0
  replace k0_1 := m4.cellAt k0_1
  replace k0_2 := m4.cellAt k0_2
  replace ow0 := ow0.mk m4 (by omega) (.inr (.inr (Nat.le_refl _)))
  have h8 := o6.has.mono (B' := w4.heap.size) (by omega)
  go_wp2_with fail
  have xx_0 : (w4.alloc (Obj.cells #[Value.int .i64 a0_0, Value.int .i64 a0_1, Value.slice (some ⟨b5, 0, none⟩) n0_2 n0_2] 43)).cell? ⟨w4.heap.size, 0, none⟩ = some (.int .i64 a0_0) := by rw [World.cell?_alloc_at _ _ _ _ rfl]; rfl
  have xx_1 : (w4.alloc (Obj.cells #[Value.int .i64 a0_0, Value.int .i64 a0_1, Value.slice (some ⟨b5, 0, none⟩) n0_2 n0_2] 43)).cell? ⟨w4.heap.size, 1, none⟩ = some (.int .i64 a0_1) := by rw [World.cell?_alloc_at _ _ _ _ rfl]; rfl
  have xx_2 : (w4.alloc (Obj.cells #[Value.int .i64 a0_0, Value.int .i64 a0_1, Value.slice (some ⟨b5, 0, none⟩) n0_2 n0_2] 43)).cell? ⟨w4.heap.size, 2, none⟩ = some (.slice (some ⟨b5, 0, none⟩) n0_2 n0_2) := by rw [World.cell?_alloc_at _ _ _ _ rfl]; rfl
  have m5 := Mk.alloc w4 (Obj.cells #[Value.int .i64 a0_0, Value.int .i64 a0_1, Value.slice (some ⟨b5, 0, none⟩) n0_2 n0_2] 43)
  replace k0_0 := m5.cellAt k0_0
  replace k0_1 := m5.cellAt k0_1
  replace k0_2 := m5.cellAt k0_2
  replace h8 := h8.mk m5 (by omega) (.inr (Nat.le_refl _))
  replace o6 := o6.mk m5 (by omega) (.inr (.inr (Nat.le_refl _)))
  replace ow0 := ow0.mk m5 (by omega) (.inr (.inr (Nat.le_refl _)))
  have M5 := M4.trans m5
  have z5 := m5.size
  have zz5 : w4.heap.size < (w4.alloc (Obj.cells #[Value.int .i64 a0_0, Value.int .i64 a0_1, Value.slice (some ⟨b5, 0, none⟩) n0_2 n0_2] 43)).heap.size := by rw [World.size_alloc]; omega
  generalize (w4.alloc (Obj.cells #[Value.int .i64 a0_0, Value.int .i64 a0_1, Value.slice (some ⟨b5, 0, none⟩) n0_2 n0_2] 43)) = w5 at *
  refine ((implSData _ _ _ _ _ _ z0_2 _ _ h8 (by omega) (by omega) (Nat.le_refl _))).mono ?_
  rintro e w6 ⟨A6, N6, c6, rfl, hc6, oo6, bb6⟩
  have m6 := Mk.of_below bb6
  have og0 := oo6.toR (hi := w6.heap.size) (Nat.le_refl _)
  clear oo6 bb6 hc6
  obtain rfl : N3 = N6 := ow0.1.symm.trans og0.1
  have M6 := M5.trans m6
  have z6 := m6.size
  replace k0_0 := m6.cellAt k0_0
  replace k0_1 := m6.cellAt k0_1
  replace k0_2 := m6.cellAt k0_2
  replace xx_0 := m6.cellAt xx_0
  replace xx_1 := m6.cellAt xx_1
  replace xx_2 := m6.cellAt xx_2
  replace h8 := h8.mk m6 (by omega) (.inr (Nat.le_refl _))
  replace o6 := o6.mk m6 (by omega) (.inr (.inr (Nat.le_refl _)))
  replace ow0 := ow0.mk m6 (by omega) (.inr (.inr (Nat.le_refl _)))
  go_wp2_with fail
  refine (eqInt _ _ _ _ _ _ _ _ _ (hasR_int.1 og0.has) (hasR_int.1 ow0.has) hbw0).mono ?_
  rintro e w7 ⟨rfl, mm7, hw7⟩
  have m7 : Mk0 w6 w7 := by rw [hw7]; exact Mk.drewN _ _
  clear hw7
  have M7 := M6.trans m7
  have z7 := m7.size
  replace k0_0 := m7.cellAt k0_0
  replace k0_1 := m7.cellAt k0_1
  replace k0_2 := m7.cellAt k0_2
  replace xx_0 := m7.cellAt xx_0
  replace xx_1 := m7.cellAt xx_1
  replace xx_2 := m7.cellAt xx_2
  replace h8 := h8.mk m7 (by omega) (.inr (Nat.le_refl _))
  replace o6 := o6.mk m7 (by omega) (.inr (.inr (Nat.le_refl _)))
  replace ow0 := ow0.mk m7 (by omega) (.inr (.inr (Nat.le_refl _)))
  replace og0 := og0.mk m7 (by omega) (.inr (.inr (Nat.le_refl _)))
  go_wp2_with fail
  have e9 : ∀ w', Mk0 w7 w' → HasHop w' w4.heap.size (some ⟨b5, 0, none⟩) n0_2 z0_2 := fun w' m => h8.mk m (by omega) (.inr (Nat.le_refl _))
  have e10 : ∀ w', Mk0 w7 w' → w4.heap.size ≤ w'.heap.size := fun w' m => Nat.le_trans (by omega) m.size
  have e11 : ∀ w', Mk0 w7 w' → HasHop w' w.heap.size a0_2 n0_2 z0_2 := fun w' m => h0_2.mk (M7.trans m) (Nat.le_refl _) (.inr (Nat.le_refl _))
  have hN0_2 : n0_2 ≤ 1048576 := by omega
  go_region_held3 (fun w' => Mk0 w7 w' ∧ w'.cell? ⟨w.heap.size, 0, none⟩ = some (.int .i64 a0_0) ∧ w'.cell? ⟨w.heap.size, 1, none⟩ = some (.int .i64 a0_1) ∧ w'.cell? ⟨w.heap.size, 2, none⟩ = some (.slice a0_2 n0_2 c0_2) ∧ w'.cell? ⟨w4.heap.size, 0, none⟩ = some (.int .i64 a0_0) ∧ w'.cell? ⟨w4.heap.size, 1, none⟩ = some (.int .i64 a0_1) ∧ w'.cell? ⟨w4.heap.size, 2, none⟩ = some (.slice (some ⟨b5, 0, none⟩) n0_2 n0_2)) (first | exact ⟨Mk.drew1 _, k0_0, k0_1, k0_2, xx_0, xx_1, xx_2⟩ | (obtain ⟨s0, s1, s2, s3, s4, s5, s6⟩ := ‹Mk0 w7 _ ∧ _›; exact ⟨s0.trans mm, mm.cellAt s1, mm.cellAt s2, mm.cellAt s3, mm.cellAt s4, mm.cellAt s5, mm.cellAt s6⟩)) (first | (go_at_call 27; refine (toSegmentC _ _ _ _ _ _ w.heap.size _ (e11 _ (‹Mk0 w7 _ ∧ _›).1) (M7.trans (‹Mk0 w7 _ ∧ _›).1).size hN0_2).mono ?_; rintro e wa ⟨bb0, rfl, oo0, gg0, mm⟩) | (go_at_call 29; refine (eqSegmentC _ _ _ _ _ _ _ _ _ _ _ (e9 _ (‹Mk0 w7 _ ∧ _›).1) (oo0.has.mono (Nat.le_refl _)) (e10 _ (‹Mk0 w7 _ ∧ _›).1) (Nat.le_refl _) hN0_2).mono ?_; rintro e wb8 ⟨rfl, mm⟩))
  obtain ⟨m8, k0_0, k0_1, k0_2, xx_0, xx_1, xx_2⟩ := ‹Mk0 w7 _ ∧ _›
  clear e9 e10 e11 hN0_2
  refine ‹∀ (a : Act) (w : World), _ → _› _ _ ?_
  have M8 := M7.trans m8
  have z8 := m8.size
  replace h8 := h8.mk m8 (by omega) (.inr (Nat.le_refl _))
  replace o6 := o6.mk m8 (by omega) (.inr (.inr (Nat.le_refl _)))
  replace ow0 := ow0.mk m8 (by omega) (.inr (.inr (Nat.le_refl _)))
  replace og0 := og0.mk m8 (by omega) (.inr (.inr (Nat.le_refl _)))
  go_wp2_with fail
  refine (markSegmentC _ _ _ _ _ _ w3.heap.size w4.heap.size _ _ o6 (by omega) (by omega) (by omega) (by omega) (by omega)).mono ?_
  rintro e w9 ⟨l9, hl9, rfl, m9⟩
  have M9 := M8.andR m9 (.inl (by omega))
  have z9 := m9.size
  replace k0_0 := m9.cellAtR k0_0 (by omega)
  replace k0_1 := m9.cellAtR k0_1 (by omega)
  replace k0_2 := m9.cellAtR k0_2 (by omega)
  replace xx_0 := m9.cellAtR xx_0 (by omega)
  replace xx_1 := m9.cellAtR xx_1 (by omega)
  replace xx_2 := m9.cellAtR xx_2 (by omega)
  replace ow0 := ow0.mk m9 (by omega) (by omega)
  replace og0 := og0.mk m9 (by omega) (by omega)
  go_wp2_with fail
  refine (eqInt _ _ _ _ _ _ _ _ _ (hasR_int.1 og0.has) (hasR_int.1 ow0.has) hbw0).mono ?_
  rintro e w10 ⟨rfl, mm10, hw10⟩
  have m10 : Mk0 w9 w10 := by rw [hw10]; exact Mk.drewN _ _
  clear hw10
  have M10 := M9.trans m10
  have z10 := m10.size
  replace k0_0 := m10.cellAt k0_0
  replace k0_1 := m10.cellAt k0_1
  replace k0_2 := m10.cellAt k0_2
  replace xx_0 := m10.cellAt xx_0
  replace xx_1 := m10.cellAt xx_1
  replace xx_2 := m10.cellAt xx_2
  replace ow0 := ow0.mk m10 (by omega) (.inr (.inr (Nat.le_refl _)))
  replace og0 := og0.mk m10 (by omega) (.inr (.inr (Nat.le_refl _)))
  go_wp2_with fail
  refine (markInt _ _ _ w5.heap.size _ _ _ (og0.int (by omega)) hbw0 (by omega) (by omega)).mono ?_
  rintro e w11 ⟨rfl, oo11, gg11⟩
  have m11 : Mk w5.heap.size w6.heap.size w10 w11 := Mk.of_grown gg11 og0.row
  replace og0 := Own.toR_far og0 oo11
  clear oo11 gg11
  have M11 := M10.andR m11 (.inl (by omega))
  have z11 := m11.size
  replace k0_0 := m11.cellAtR k0_0 (by omega)
  replace k0_1 := m11.cellAtR k0_1 (by omega)
  replace k0_2 := m11.cellAtR k0_2 (by omega)
  replace xx_0 := m11.cellAtR xx_0 (by omega)
  replace xx_1 := m11.cellAtR xx_1 (by omega)
  replace xx_2 := m11.cellAtR xx_2 (by omega)
  replace ow0 := ow0.mk m11 (by omega) (by omega)
  go_wp2_with fail
  refine (heldInt _ _ _ _ _ _ (hasR_int.1 og0.has) hbw0 (by omega) (by omega)).mono ?_
  rintro e w' ⟨rfl, rfl⟩
  go_wp2_with fail
  refine (toSegmentC _ _ _ _ _ _ w.heap.size _ (h0_2.mk M11 (Nat.le_refl _) (.inr (Nat.le_refl _))) (by omega) (by omega)).mono ?_
  rintro e w12 ⟨b12, rfl, o13, g14, m12⟩
  have M12 := M11.trans m12
  have z12 := m12.size
  replace k0_0 := m12.cellAt k0_0
  replace k0_1 := m12.cellAt k0_1
  replace k0_2 := m12.cellAt k0_2
  replace xx_0 := m12.cellAt xx_0
  replace xx_1 := m12.cellAt xx_1
  replace xx_2 := m12.cellAt xx_2
  replace ow0 := ow0.mk m12 (by omega) (.inr (.inr (Nat.le_refl _)))
  replace og0 := og0.mk m12 (by omega) (.inr (.inr (Nat.le_refl _)))
  have h15 := o13.has.mono (B' := w12.heap.size) (by omega)
  clear o13
  go_wp2_with fail
  refine ((implSData _ _ _ _ _ _ z0_2 _ _ h15 (by omega) (by omega) (Nat.le_refl _))).mono ?_
  rintro e w13 ⟨A13, N13, c13, rfl, hc13, oo13, bb13⟩
  have m13 := Mk.of_below bb13
  have oh0 := oo13.toR (hi := w13.heap.size) (Nat.le_refl _)
  clear oo13 bb13 hc13
  obtain rfl : N3 = N13 := ow0.1.symm.trans oh0.1
  have M13 := M12.trans m13
  have z13 := m13.size
  replace k0_0 := m13.cellAt k0_0
  replace k0_1 := m13.cellAt k0_1
  replace k0_2 := m13.cellAt k0_2
  replace xx_0 := m13.cellAt xx_0
  replace xx_1 := m13.cellAt xx_1
  replace xx_2 := m13.cellAt xx_2
  replace h15 := h15.mk m13 (by omega) (.inr (Nat.le_refl _))
  replace ow0 := ow0.mk m13 (by omega) (.inr (.inr (Nat.le_refl _)))
  replace og0 := og0.mk m13 (by omega) (.inr (.inr (Nat.le_refl _)))
  go_wp2_with fail
  refine (eqInt _ _ _ _ _ _ _ _ _ (hasR_int.1 oh0.has) (hasR_int.1 ow0.has) hbw0).mono ?_
  rintro e w14 ⟨rfl, mm14, hw14⟩
  have m14 : Mk0 w13 w14 := by rw [hw14]; exact Mk.drewN _ _
  clear hw14
  have M14 := M13.trans m14
  have z14 := m14.size
  replace k0_0 := m14.cellAt k0_0
  replace k0_1 := m14.cellAt k0_1
  replace k0_2 := m14.cellAt k0_2
  replace xx_0 := m14.cellAt xx_0
  replace xx_1 := m14.cellAt xx_1
  replace xx_2 := m14.cellAt xx_2
  replace ow0 := ow0.mk m14 (by omega) (.inr (.inr (Nat.le_refl _)))
  replace og0 := og0.mk m14 (by omega) (.inr (.inr (Nat.le_refl _)))
  replace oh0 := oh0.mk m14 (by omega) (.inr (.inr (Nat.le_refl _)))
  go_wp2_with fail
  refine (heldInt _ _ _ _ _ _ (hasR_int.1 og0.has) hbw0 (by omega) (by omega)).mono ?_
  rintro e w' ⟨rfl, rfl⟩
  go_wp2_with fail
  go_ret
  exact ⟨rfl, M14.below0⟩

set_option maxRecDepth 100000 in
theorem lifted (os : Os) (started : os.Started) (H : Type) (enc : TypeId × Value → H) :
    ReturnsInHanded {} Try.checked os 7 .any (Rows.fnExactSignedDataSpec.pre6 enc Try.prog Try.f7 Rows.fnExactSignedDataRow.domain false) (Rows.fnExactSignedDataSpec.post enc Try.prog Try.f7 false true false false) := by
  refine returnsInHanded_of_change (C := Try.checked) own started (by kernel_rfl) Try.func7
    (ChangeSpec.witness6 (enc := enc) (C := Try.checked) false ⟨#[], #[.agg #[.int .i64 0, .int .i64 0, .slice none 0 0], .int .i64 0], []⟩ 8 (by kernel_rfl) (by kernel_rfl) (by kernel_rfl) (by kernel_rfl)) ?_
  intro W base args ds gs before hval0 hW hcnd _
  have hval : ∀ (j : Nat) t v, Try.f7.params[j]? = some t → args[j]? = some v → Value.okWide Try.prog W .any base t v := hval0
  have hW' := hW
  obtain ⟨p, q, hA0, hV, rfl, hfz, hnd⟩ := hW
  have hA : DataW.TrodAll enc Try.prog W 0 (fun _ => true) true Try.f7.params.toList args.toList ds p := hA0
  rw [Try.params7] at hA hval
  obtain ⟨v0, vs0, d0, ds0, p0, q0, hargs, rfl, rfl, h0, r0⟩ := trodAll_cons hA
  obtain ⟨v1, vs1, d1, ds1, p1, q1, rfl, rfl, rfl, h1, r1⟩ := trodAll_cons r0
  obtain ⟨rfl, rfl, rfl⟩ := trodAll_nil r1
  obtain rfl : args = #[v0, v1] := by cases args; simp_all
  obtain ⟨rfl, rfl⟩ := trodVars_none hV
  have k0 := h0
  have lt0 : ∀ x ∈ p0, x.block < W.heap.size := by obtain ⟨m, hm⟩ := k0; exact DataW.trod_lt m _ _ _ hm
  obtain ⟨cs0, rfl, hcs0, hf0⟩ := open_agg Try.underlying38 (by kernel_rfl) (by kernel_rfl) (hval 0 38 v0 rfl rfl) h0
  obtain ⟨_, _, _, e0_0, q0_0⟩ := hf0 0 _ rfl
  obtain ⟨a0_0, rfl, w0_0⟩ := one_int Try.underlying3 q0_0
  obtain ⟨_, _, _, e0_1, q0_1⟩ := hf0 1 _ rfl
  obtain ⟨a0_1, rfl, w0_1⟩ := one_int Try.underlying3 q0_1
  obtain ⟨_, _, _, e0_2, q0_2⟩ := hf0 2 _ rfl
  obtain ⟨a0_2, n0_2, c0_2, z0_2, rfl, m0_2, h0_2, f0_2⟩ := openHopS q0_2
  obtain rfl : cs0 = #[.int .i64 a0_0, .int .i64 a0_1, .slice a0_2 n0_2 c0_2] := arr_of [.int .i64 a0_0, .int .i64 a0_1, .slice a0_2 n0_2 c0_2] hcs0 (fun j hj => by match j, hj with | 0, _ => exact e0_0 | 1, _ => exact e0_1 | 2, _ => exact e0_2)
  obtain ⟨a1, rfl, rfl, rfl, w1⟩ := open_int Try.underlying3 (hval 1 3 v1 rfl rfl) h1
  clear hA0 hval0
  refine (walk a0_0 a0_1 a0_2 n0_2 c0_2 z0_2 a1 W w0_0 w0_1 h0_2 m0_2 f0_2 w1).mono fun e W' ⟨he, bel⟩ => ?_
  subst he
  exact ⟨_, rfl, _, _, _, [], _, [], hW', trodAll_mk1 (shut_bool Try.underlying4 _), (trodAll_cons_mk (Below.trod laidOut (by kernel_rfl) (of_decide_eq_true (by kernel_rfl)) k0 bel lt0) (trodAll_cons_mk (shut_int Try.underlying3 w1) trodAll_mk0)), rfl, bel.frame _, fun h => by cases h⟩

theorem over : Rows.fnExactSignedDataRow.holds Try.pinned (OpenSpec.ofChange Rows.fnExactSignedDataSpec) :=
  OpenClaim.holds_of_wide 7 Try.f7 rfl rfl rfl rfl rfl rfl rfl ⟨rfl, rfl, rfl, rfl, rfl⟩ rfl rfl rfl rfl rfl (by kernel_rfl) Try.func7 (by kernel_rfl)
    (of_decide_eq_true (by kernel_rfl)) (by unfold Func.isWrapper; first | (rw [if_pos (by decide +kernel)]; kernel_rfl) | (rw [if_neg (by decide +kernel)]; exact ⟨rfl, rfl⟩))
    (fun os started H enc _ => lifted os started H enc)

theorem proved : Rows.FnExactSignedDataSaid := over
#print axioms proved
end Go.Proofs.Ytpiilbcdiejjfaa.fnExactSignedData
