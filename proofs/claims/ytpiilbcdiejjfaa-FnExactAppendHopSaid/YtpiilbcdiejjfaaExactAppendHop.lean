
/- For every byte slice and every hop field, the law on AppendHop returns true; no further condition. -/
import Derived.Test.YtpiilbcdiejjfaaRows
import Derived.WalkKit
import Derived.ProofKit
import Derived.OpenShut
import Derived.ShutString
import Derived.ChangeOld
import Derived.Below
import Derived.Test.YtpiilbcdiejjfaaStruct
import Derived.Deep.RegionHeld3
import Derived.Test.YtpiilbcdiejjfaaAddHop
import Derived.Test.YtpiilbcdiejjfaaByteR
namespace Go.Proofs.Ytpiilbcdiejjfaa.fnExactAppendHop
open Go.ChangeShapes Go.WideShapes Go.ChangeAt Go.RowKit
open Go.ChangeMaps (open_string shut_string)
set_option linter.unusedVariables false

theorem own : ownKnob Try.prog.godebug = none := by kernel_rfl
theorem laidOut : laidOutB Try.prog = true := by kernel_rfl

set_option maxRecDepth 100000 in
set_option maxHeartbeats 4000000 in
theorem walk (a0_ : Option Addr) (n0_ c0_ : Nat) (z0_ : List Int) (a1_0 : Int) (a1_1 : Int) (a1_2 : Int) (a1_3 : Int) (a1_4 : Int) (w : World) (h0_ : HasByte w w.heap.size a0_ n0_ z0_) (m0_ : n0_ ≤ 9223372036854775807) (f0_ : ∀ z ∈ z0_, (Lit.int .u8 z).wf = true) (w1_0 : (Lit.int .i64 a1_0).wf = true) (w1_1 : (Lit.int .i64 a1_1).wf = true) (w1_2 : (Lit.int .i64 a1_2).wf = true) (w1_3 : (Lit.int .i64 a1_3).wf = true) (w1_4 : (Lit.int .i64 a1_4).wf = true) :
    Calls Try.prog 3 #[.slice a0_ n0_ c0_, .agg #[.int .i64 a1_0, .int .i64 a1_1, .int .i64 a1_2, .int .i64 a1_3, .int .i64 a1_4]] w fun e w' => e = .returned (.bool true) ∧ Below w.heap.size w w' := by
  by_cases hbig0 : 1048576 < n0_
  · have hb0 : (1048576 : Int) < (n0_ : Int) := by omega
    go_enter Try.func3, Try.ntmps3
    go_wp2_with fail
    have M0 : Mk0 w (w.alloc (Obj.cells #[Value.int .i64 a1_0, Value.int .i64 a1_1, Value.int .i64 a1_2, Value.int .i64 a1_3, Value.int .i64 a1_4] 24)) := (Mk.alloc w _)
    have k1_0 : (w.alloc (Obj.cells #[Value.int .i64 a1_0, Value.int .i64 a1_1, Value.int .i64 a1_2, Value.int .i64 a1_3, Value.int .i64 a1_4] 24)).cell? ⟨w.heap.size, 0, none⟩ = some (.int .i64 a1_0) := by simp [go_sem]
    have k1_1 : (w.alloc (Obj.cells #[Value.int .i64 a1_0, Value.int .i64 a1_1, Value.int .i64 a1_2, Value.int .i64 a1_3, Value.int .i64 a1_4] 24)).cell? ⟨w.heap.size, 1, none⟩ = some (.int .i64 a1_1) := by simp [go_sem]
    have k1_2 : (w.alloc (Obj.cells #[Value.int .i64 a1_0, Value.int .i64 a1_1, Value.int .i64 a1_2, Value.int .i64 a1_3, Value.int .i64 a1_4] 24)).cell? ⟨w.heap.size, 2, none⟩ = some (.int .i64 a1_2) := by simp [go_sem]
    have k1_3 : (w.alloc (Obj.cells #[Value.int .i64 a1_0, Value.int .i64 a1_1, Value.int .i64 a1_2, Value.int .i64 a1_3, Value.int .i64 a1_4] 24)).cell? ⟨w.heap.size, 3, none⟩ = some (.int .i64 a1_3) := by simp [go_sem]
    have k1_4 : (w.alloc (Obj.cells #[Value.int .i64 a1_0, Value.int .i64 a1_1, Value.int .i64 a1_2, Value.int .i64 a1_3, Value.int .i64 a1_4] 24)).cell? ⟨w.heap.size, 4, none⟩ = some (.int .i64 a1_4) := by simp [go_sem]
    go_ret
    exact ⟨rfl, M0.below0⟩
  have hn0 : n0_ ≤ 1048576 := by omega
  have hp0 : (n0_ : Int) ≤ 1048576 := by omega
  clear hbig0
  go_enter Try.func3, Try.ntmps3
  go_wp2_with fail
  have M0 : Mk0 w (w.alloc (Obj.cells #[Value.int .i64 a1_0, Value.int .i64 a1_1, Value.int .i64 a1_2, Value.int .i64 a1_3, Value.int .i64 a1_4] 24)) := (Mk.alloc w _)
  have k1_0 : (w.alloc (Obj.cells #[Value.int .i64 a1_0, Value.int .i64 a1_1, Value.int .i64 a1_2, Value.int .i64 a1_3, Value.int .i64 a1_4] 24)).cell? ⟨w.heap.size, 0, none⟩ = some (.int .i64 a1_0) := by simp [go_sem]
  have k1_1 : (w.alloc (Obj.cells #[Value.int .i64 a1_0, Value.int .i64 a1_1, Value.int .i64 a1_2, Value.int .i64 a1_3, Value.int .i64 a1_4] 24)).cell? ⟨w.heap.size, 1, none⟩ = some (.int .i64 a1_1) := by simp [go_sem]
  have k1_2 : (w.alloc (Obj.cells #[Value.int .i64 a1_0, Value.int .i64 a1_1, Value.int .i64 a1_2, Value.int .i64 a1_3, Value.int .i64 a1_4] 24)).cell? ⟨w.heap.size, 2, none⟩ = some (.int .i64 a1_2) := by simp [go_sem]
  have k1_3 : (w.alloc (Obj.cells #[Value.int .i64 a1_0, Value.int .i64 a1_1, Value.int .i64 a1_2, Value.int .i64 a1_3, Value.int .i64 a1_4] 24)).cell? ⟨w.heap.size, 3, none⟩ = some (.int .i64 a1_3) := by simp [go_sem]
  have k1_4 : (w.alloc (Obj.cells #[Value.int .i64 a1_0, Value.int .i64 a1_1, Value.int .i64 a1_2, Value.int .i64 a1_3, Value.int .i64 a1_4] 24)).cell? ⟨w.heap.size, 4, none⟩ = some (.int .i64 a1_4) := by simp [go_sem]
  have e1 : ∀ w', Mk0 (w.alloc (Obj.cells #[Value.int .i64 a1_0, Value.int .i64 a1_1, Value.int .i64 a1_2, Value.int .i64 a1_3, Value.int .i64 a1_4] 24)) w' → HasByte w' w.heap.size a0_ n0_ z0_ := fun w' m => h0_.mk (M0.trans m) (Nat.le_refl _) (.inr (Nat.le_refl _))
  have hN0_ : n0_ ≤ 1048576 := by omega
  go_region_held3 (fun w' => Mk0 (w.alloc (Obj.cells #[Value.int .i64 a1_0, Value.int .i64 a1_1, Value.int .i64 a1_2, Value.int .i64 a1_3, Value.int .i64 a1_4] 24)) w' ∧ w'.cell? ⟨w.heap.size, 0, none⟩ = some (.int .i64 a1_0) ∧ w'.cell? ⟨w.heap.size, 1, none⟩ = some (.int .i64 a1_1) ∧ w'.cell? ⟨w.heap.size, 2, none⟩ = some (.int .i64 a1_2) ∧ w'.cell? ⟨w.heap.size, 3, none⟩ = some (.int .i64 a1_3) ∧ w'.cell? ⟨w.heap.size, 4, none⟩ = some (.int .i64 a1_4)) (first | exact ⟨Mk.drew1 _, k1_0, k1_1, k1_2, k1_3, k1_4⟩ | (obtain ⟨s0, s1, s2, s3, s4, s5⟩ := ‹Mk0 (w.alloc (Obj.cells #[Value.int .i64 a1_0, Value.int .i64 a1_1, Value.int .i64 a1_2, Value.int .i64 a1_3, Value.int .i64 a1_4] 24)) _ ∧ _›; exact ⟨s0.trans mm, mm.cellAt s1, mm.cellAt s2, mm.cellAt s3, mm.cellAt s4, mm.cellAt s5⟩)) (first | (go_at_call 16; with_reducible refine (toByteS a0_ n0_ c0_ w.heap.size z0_ _ (e1 _ (‹Mk0 (w.alloc (Obj.cells #[Value.int .i64 a1_0, Value.int .i64 a1_1, Value.int .i64 a1_2, Value.int .i64 a1_3, Value.int .i64 a1_4] 24)) _ ∧ _›).1) (M0.trans (‹Mk0 (w.alloc (Obj.cells #[Value.int .i64 a1_0, Value.int .i64 a1_1, Value.int .i64 a1_2, Value.int .i64 a1_3, Value.int .i64 a1_4] 24)) _ ∧ _›).1).size hN0_).mono ?_; rintro e wc0 ⟨bc0_0, rfl, oc0_0, mc0⟩; have mm := mc0) | (go_at_call 17; with_reducible refine (toHopI a1_0 a1_1 a1_2 a1_3 a1_4 _).mono ?_; rintro e wf1 ⟨rfl, mf1⟩; have mm := mf1) | (go_at_call 15; refine (specAppHopR ⟨a1_0, a1_1, a1_2, a1_3, a1_4⟩ _ n0_ _ _ z0_ _ (by first | exact (oc0_0.has.mono (Nat.le_refl _)) | exact (oc0_0.has.mono (Nat.le_refl _)).mk mf1 (Nat.le_refl _) (.inr (Nat.le_refl _))) (by first | exact Nat.le_refl _ | exact mf1.size) (fun h => by cases h) hN0_).mono ?_; rintro e wz1 ⟨A1, N1, c1, rfl, hc1, ow0, mm⟩))
  all_goals (
    obtain ⟨m1, k1_0, k1_1, k1_2, k1_3, k1_4⟩ := ‹Mk0 (w.alloc (Obj.cells #[Value.int .i64 a1_0, Value.int .i64 a1_1, Value.int .i64 a1_2, Value.int .i64 a1_3, Value.int .i64 a1_4] 24)) _ ∧ _›
    refine ‹∀ (a : Act) (w : World), _ → _› _ _ ?_
    clear e1 hN0_
    have M1 := M0.trans m1
    have z1 := m1.size
    replace ow0 := ow0.wide (lo' := w.heap.size) (Nat.le_trans (Nat.le_trans (M0.size) mc0.size) mf1.size) (Nat.le_refl _)
    clear hc1
    simp only [World.size_alloc] at z1
    have hbw0 : N1 ≤ 2097152 := by have h1 := ow0.1; have h2 := hopBytes_len ⟨a1_0, a1_1, a1_2, a1_3, a1_4⟩; have h3 := h0_.1; rw [List.length_append] at h1; omega
    go_wp2_with fail
    refine (toByteS _ _ _ w.heap.size _ _ (h0_.mk M1 (Nat.le_refl _) (.inr (Nat.le_refl _))) (by omega) (by omega)).mono ?_
    rintro e w2 ⟨b2, rfl, o3, m2⟩
    have M2 := M1.trans m2
    have z2 := m2.size
    replace k1_0 := m2.cellAt k1_0
    replace k1_1 := m2.cellAt k1_1
    replace k1_2 := m2.cellAt k1_2
    replace k1_3 := m2.cellAt k1_3
    replace k1_4 := m2.cellAt k1_4
    replace ow0 := ow0.mk m2 (by omega) (.inr (.inr (Nat.le_refl _)))
    have h4 := o3.has.mono (B' := w2.heap.size) (by omega)
    go_wp2_with fail
    refine (toHopV ⟨a1_0, a1_1, a1_2, a1_3, a1_4⟩ _).mono ?_
    rintro e w3 ⟨rfl, m3⟩
    have M3 := M2.trans m3
    have z3 := m3.size
    replace k1_0 := m3.cellAt k1_0
    replace k1_1 := m3.cellAt k1_1
    replace k1_2 := m3.cellAt k1_2
    replace k1_3 := m3.cellAt k1_3
    replace k1_4 := m3.cellAt k1_4
    replace h4 := h4.mk m3 (by omega) (.inr (Nat.le_refl _))
    replace o3 := o3.mk m3 (by omega) (.inr (.inr (Nat.le_refl _)))
    replace ow0 := ow0.mk m3 (by omega) (.inr (.inr (Nat.le_refl _)))
    go_wp2_with fail
    refine (implAppHopR ⟨a1_0, a1_1, a1_2, a1_3, a1_4⟩ _ n0_ _ _ z0_ _ h4 (by omega) (fun h => by cases h) (by omega)).mono ?_
    rintro e w4 ⟨A4, N4, c4, rfl, hc4, og0, m4⟩
    clear hc4
    obtain rfl : N1 = N4 := ow0.1.symm.trans og0.1
    have M4 := M3.trans m4
    have z4 := m4.size
    replace k1_0 := m4.cellAt k1_0
    replace k1_1 := m4.cellAt k1_1
    replace k1_2 := m4.cellAt k1_2
    replace k1_3 := m4.cellAt k1_3
    replace k1_4 := m4.cellAt k1_4
    replace h4 := h4.mk m4 (by omega) (.inr (Nat.le_refl _))
    replace o3 := o3.mk m4 (by omega) (.inr (.inr (Nat.le_refl _)))
    replace ow0 := ow0.mk m4 (by omega) (.inr (.inr (Nat.le_refl _)))
    go_wp2_with fail
    refine (eqByteS _ _ _ _ _ _ _ _ _ og0.has ow0.has (by omega) (by omega) (by omega)).mono ?_
    rintro e w5 ⟨rfl, m5⟩
    have M5 := M4.trans m5
    have z5 := m5.size
    replace k1_0 := m5.cellAt k1_0
    replace k1_1 := m5.cellAt k1_1
    replace k1_2 := m5.cellAt k1_2
    replace k1_3 := m5.cellAt k1_3
    replace k1_4 := m5.cellAt k1_4
    replace h4 := h4.mk m5 (by omega) (.inr (Nat.le_refl _))
    replace o3 := o3.mk m5 (by omega) (.inr (.inr (Nat.le_refl _)))
    replace ow0 := ow0.mk m5 (by omega) (.inr (.inr (Nat.le_refl _)))
    replace og0 := og0.mk m5 (by omega) (.inr (.inr (Nat.le_refl _)))
    go_wp2_with fail
    refine (toByteS _ _ _ w.heap.size _ _ (h0_.mk M5 (Nat.le_refl _) (.inr (Nat.le_refl _))) (by omega) (by omega)).mono ?_
    rintro e w6 ⟨b5, rfl, o6, m6⟩
    have M6 := M5.trans m6
    have z6 := m6.size
    replace k1_0 := m6.cellAt k1_0
    replace k1_1 := m6.cellAt k1_1
    replace k1_2 := m6.cellAt k1_2
    replace k1_3 := m6.cellAt k1_3
    replace k1_4 := m6.cellAt k1_4
    replace h4 := h4.mk m6 (by omega) (.inr (Nat.le_refl _))
    replace o3 := o3.mk m6 (by omega) (.inr (.inr (Nat.le_refl _)))
    replace ow0 := ow0.mk m6 (by omega) (.inr (.inr (Nat.le_refl _)))
    replace og0 := og0.mk m6 (by omega) (.inr (.inr (Nat.le_refl _)))
    have h7 := o6.has.mono (B' := w6.heap.size) (by omega)
    clear o6
    go_wp2_with fail
    refine (eqByteS _ _ _ _ _ _ _ _ _ h4 h7 (by omega) (by omega) (by omega)).mono ?_
    rintro e w7 ⟨rfl, m7⟩
    have M7 := M6.trans m7
    have z7 := m7.size
    replace k1_0 := m7.cellAt k1_0
    replace k1_1 := m7.cellAt k1_1
    replace k1_2 := m7.cellAt k1_2
    replace k1_3 := m7.cellAt k1_3
    replace k1_4 := m7.cellAt k1_4
    replace h4 := h4.mk m7 (by omega) (.inr (Nat.le_refl _))
    replace h7 := h7.mk m7 (by omega) (.inr (Nat.le_refl _))
    replace o3 := o3.mk m7 (by omega) (.inr (.inr (Nat.le_refl _)))
    replace ow0 := ow0.mk m7 (by omega) (.inr (.inr (Nat.le_refl _)))
    replace og0 := og0.mk m7 (by omega) (.inr (.inr (Nat.le_refl _)))
    go_wp2_with fail
    refine (markByteS _ _ _ wz1.heap.size w2.heap.size _ _ _ o3 (by omega) (by omega) (by omega)).mono ?_
    rintro e w8 ⟨rfl, m8⟩
    have M8 := M7.andR m8 (.inl (by omega))
    have z8 := m8.size
    replace k1_0 := m8.cellAtR k1_0 (by omega)
    replace k1_1 := m8.cellAtR k1_1 (by omega)
    replace k1_2 := m8.cellAtR k1_2 (by omega)
    replace k1_3 := m8.cellAtR k1_3 (by omega)
    replace k1_4 := m8.cellAtR k1_4 (by omega)
    replace ow0 := ow0.mk m8 (by omega) (by omega)
    replace og0 := og0.mk m8 (by omega) (by omega)
    go_wp2_with fail
    refine (eqByteS _ _ _ _ _ _ _ _ _ og0.has ow0.has (by omega) (by omega) (by omega)).mono ?_
    rintro e w9 ⟨rfl, m9⟩
    have M9 := M8.trans m9
    have z9 := m9.size
    replace k1_0 := m9.cellAt k1_0
    replace k1_1 := m9.cellAt k1_1
    replace k1_2 := m9.cellAt k1_2
    replace k1_3 := m9.cellAt k1_3
    replace k1_4 := m9.cellAt k1_4
    replace ow0 := ow0.mk m9 (by omega) (.inr (.inr (Nat.le_refl _)))
    replace og0 := og0.mk m9 (by omega) (.inr (.inr (Nat.le_refl _)))
    go_wp2_with fail
    refine (markByteM _ _ _ w3.heap.size w4.heap.size _ _ _ og0 (by omega) (by omega) (by omega)).mono ?_
    rintro e w10 ⟨rfl, oo10, m10⟩
    replace og0 := oo10
    clear oo10
    have M10 := M9.andR m10 (.inl (by omega))
    have z10 := m10.size
    replace k1_0 := m10.cellAtR k1_0 (by omega)
    replace k1_1 := m10.cellAtR k1_1 (by omega)
    replace k1_2 := m10.cellAtR k1_2 (by omega)
    replace k1_3 := m10.cellAtR k1_3 (by omega)
    replace k1_4 := m10.cellAtR k1_4 (by omega)
    replace ow0 := ow0.mk m10 (by omega) (by omega)
    go_wp2_with fail
    refine (heldByteM _ _ _ _ _ _ og0.has (by omega) (by omega) (by omega)).mono ?_
    rintro e w' ⟨rfl, rfl⟩
    go_wp2_with fail
    have e8 : ∀ w', Mk0 w10 w' → HasByte w' w.heap.size a0_ n0_ z0_ := fun w' m => h0_.mk (M10.trans m) (Nat.le_refl _) (.inr (Nat.le_refl _))
    have hN0_ : n0_ ≤ 1048576 := by omega
    go_region_held3 (fun w' => Mk0 w10 w' ∧ w'.cell? ⟨w.heap.size, 0, none⟩ = some (.int .i64 a1_0) ∧ w'.cell? ⟨w.heap.size, 1, none⟩ = some (.int .i64 a1_1) ∧ w'.cell? ⟨w.heap.size, 2, none⟩ = some (.int .i64 a1_2) ∧ w'.cell? ⟨w.heap.size, 3, none⟩ = some (.int .i64 a1_3) ∧ w'.cell? ⟨w.heap.size, 4, none⟩ = some (.int .i64 a1_4)) (first | exact ⟨Mk.drew1 _, k1_0, k1_1, k1_2, k1_3, k1_4⟩ | (obtain ⟨s0, s1, s2, s3, s4, s5⟩ := ‹Mk0 w10 _ ∧ _›; exact ⟨s0.trans mm, mm.cellAt s1, mm.cellAt s2, mm.cellAt s3, mm.cellAt s4, mm.cellAt s5⟩)) (first | (go_at_call 16; with_reducible refine (toByteS a0_ n0_ c0_ w.heap.size z0_ _ (e8 _ (‹Mk0 w10 _ ∧ _›).1) (M10.trans (‹Mk0 w10 _ ∧ _›).1).size hN0_).mono ?_; rintro e wc0 ⟨bc0_0, rfl, oc0_0, mc0⟩; have mm := mc0) | (go_at_call 17; with_reducible refine (toHopI a1_0 a1_1 a1_2 a1_3 a1_4 _).mono ?_; rintro e wf1 ⟨rfl, mf1⟩; have mm := mf1) | (go_at_call 18; refine (implAppHopR ⟨a1_0, a1_1, a1_2, a1_3, a1_4⟩ _ n0_ _ _ z0_ _ (by first | exact (oc0_0.has.mono (Nat.le_refl _)) | exact (oc0_0.has.mono (Nat.le_refl _)).mk mf1 (Nat.le_refl _) (.inr (Nat.le_refl _))) (by first | exact Nat.le_refl _ | exact mf1.size) (fun h => by cases h) hN0_).mono ?_; rintro e wz11 ⟨A11, N11, c11, rfl, hc11, oh0, mm⟩))
    all_goals (
      obtain ⟨m11, k1_0, k1_1, k1_2, k1_3, k1_4⟩ := ‹Mk0 w10 _ ∧ _›
      refine ‹∀ (a : Act) (w : World), _ → _› _ _ ?_
      clear e8 hN0_
      have M11 := M10.trans m11
      have z11 := m11.size
      replace oh0 := oh0.wide (lo' := w10.heap.size) (Nat.le_trans (mc0.size) mf1.size) (Nat.le_refl _)
      clear hc11
      obtain rfl : N1 = N11 := ow0.1.symm.trans oh0.1
      replace ow0 := ow0.mk m11 (by omega) (.inr (.inr (Nat.le_refl _)))
      replace og0 := og0.mk m11 (by omega) (.inr (.inr (Nat.le_refl _)))
      go_wp2_with fail
      refine (eqByteS _ _ _ _ _ _ _ _ _ oh0.has ow0.has (by omega) (by omega) (by omega)).mono ?_
      rintro e w12 ⟨rfl, m12⟩
      have M12 := M11.trans m12
      have z12 := m12.size
      replace k1_0 := m12.cellAt k1_0
      replace k1_1 := m12.cellAt k1_1
      replace k1_2 := m12.cellAt k1_2
      replace k1_3 := m12.cellAt k1_3
      replace k1_4 := m12.cellAt k1_4
      replace ow0 := ow0.mk m12 (by omega) (.inr (.inr (Nat.le_refl _)))
      replace og0 := og0.mk m12 (by omega) (.inr (.inr (Nat.le_refl _)))
      replace oh0 := oh0.mk m12 (by omega) (.inr (.inr (Nat.le_refl _)))
      go_wp2_with fail
      refine (heldByteM _ _ _ _ _ _ og0.has (by omega) (by omega) (by omega)).mono ?_
      rintro e w' ⟨rfl, rfl⟩
      go_wp2_with fail
      go_ret
      exact ⟨rfl, M12.below0⟩))

set_option maxRecDepth 100000 in
theorem lifted (os : Os) (started : os.Started) (H : Type) (enc : TypeId × Value → H) :
    ReturnsInHanded {} Try.checked os 3 .any (Rows.fnExactAppendHopSpec.pre6 enc Try.prog Try.f3 Rows.fnExactAppendHopRow.domain false) (Rows.fnExactAppendHopSpec.post enc Try.prog Try.f3 false true false false) := by
  refine returnsInHanded_of_change (C := Try.checked) own started (by kernel_rfl) Try.func3
    (ChangeSpec.witness6 (enc := enc) (C := Try.checked) false ⟨#[], #[.slice none 0 0, .agg #[.int .i64 0, .int .i64 0, .int .i64 0, .int .i64 0, .int .i64 0]], []⟩ 8 (by kernel_rfl) (by kernel_rfl) (by kernel_rfl) (by kernel_rfl)) ?_
  intro W base args ds gs before hval0 hW hcnd _
  have hval : ∀ (j : Nat) t v, Try.f3.params[j]? = some t → args[j]? = some v → Value.okWide Try.prog W .any base t v := hval0
  have hW' := hW
  obtain ⟨p, q, hA0, hV, rfl, hfz, hnd⟩ := hW
  have hA : DataW.TrodAll enc Try.prog W 0 (fun _ => true) true Try.f3.params.toList args.toList ds p := hA0
  rw [Try.params3] at hA hval
  obtain ⟨v0, vs0, d0, ds0, p0, q0, hargs, rfl, rfl, h0, r0⟩ := trodAll_cons hA
  obtain ⟨v1, vs1, d1, ds1, p1, q1, rfl, rfl, rfl, h1, r1⟩ := trodAll_cons r0
  obtain ⟨rfl, rfl, rfl⟩ := trodAll_nil r1
  obtain rfl : args = #[v0, v1] := by cases args; simp_all
  obtain ⟨rfl, rfl⟩ := trodVars_none hV
  obtain ⟨a0, len0, cap0, rfl⟩ := okWide_slice Try.underlying22 (hval 0 22 v0 rfl rfl)
  have k0 := h0
  have lt0 : ∀ x ∈ p0, x.block < W.heap.size := by obtain ⟨m, hm⟩ := k0; exact DataW.trod_lt m _ _ _ hm
  obtain ⟨z0, w0⟩ : ∃ zs, IsRow .u8 W a0 len0 cap0 zs := by
    obtain ⟨fuel, hf⟩ := h0
    rcases open_ints Try.underlying22 Try.underlying5 (by kernel_rfl) hf with ⟨hcs, _⟩ | ⟨x, l, c, zs, hcs, _, hl, hm, hz, _, hcell, hwz⟩
    · simp [Value.cells] at hcs
      obtain ⟨rfl, rfl, rfl⟩ := hcs
      exact ⟨[], .inl ⟨rfl, rfl, rfl, rfl⟩⟩
    · simp [Value.cells] at hcs
      obtain ⟨rfl, rfl, rfl⟩ := hcs
      exact ⟨zs, .inr ⟨_, rfl, hl, hm, by simpa using hz, hcell, hwz⟩⟩
  have k1 := h1
  have lt1 : ∀ x ∈ p1, x.block < W.heap.size := by obtain ⟨m, hm⟩ := k1; exact DataW.trod_lt m _ _ _ hm
  obtain ⟨cs1, rfl, hcs1, hf1⟩ := open_flat Try.underlying24 (by kernel_rfl) (by kernel_rfl) (hval 1 24 v1 rfl rfl) h1
  obtain ⟨_, e1_0, qi, _⟩ := hf1 0 _ rfl; obtain ⟨a1_0, rfl, w1_0⟩ := qi Try.underlying3
  obtain ⟨_, e1_1, qi, _⟩ := hf1 1 _ rfl; obtain ⟨a1_1, rfl, w1_1⟩ := qi Try.underlying3
  obtain ⟨_, e1_2, qi, _⟩ := hf1 2 _ rfl; obtain ⟨a1_2, rfl, w1_2⟩ := qi Try.underlying3
  obtain ⟨_, e1_3, qi, _⟩ := hf1 3 _ rfl; obtain ⟨a1_3, rfl, w1_3⟩ := qi Try.underlying3
  obtain ⟨_, e1_4, qi, _⟩ := hf1 4 _ rfl; obtain ⟨a1_4, rfl, w1_4⟩ := qi Try.underlying3
  obtain rfl : cs1 = #[.int .i64 a1_0, .int .i64 a1_1, .int .i64 a1_2, .int .i64 a1_3, .int .i64 a1_4] := arr_of [.int .i64 a1_0, .int .i64 a1_1, .int .i64 a1_2, .int .i64 a1_3, .int .i64 a1_4] hcs1 (fun j hj => by match j, hj with | 0, _ => exact e1_0 | 1, _ => exact e1_1 | 2, _ => exact e1_2 | 3, _ => exact e1_3 | 4, _ => exact e1_4)
  clear hA0 hval0
  refine (walk a0 len0 cap0 (z0.take len0) a1_0 a1_1 a1_2 a1_3 a1_4 W (hasR_int.2 w0.has) (isrow_len w0) w0.fits w1_0 w1_1 w1_2 w1_3 w1_4).mono fun e W' ⟨he, bel⟩ => ?_
  subst he
  exact ⟨_, rfl, _, _, _, [], _, [], hW', trodAll_mk1 (shut_bool Try.underlying4 _), (trodAll_cons_mk (Below.trod laidOut (by kernel_rfl) (of_decide_eq_true (by kernel_rfl)) k0 bel lt0) (trodAll_cons_mk (Below.trod laidOut (by kernel_rfl) (of_decide_eq_true (by kernel_rfl)) k1 bel lt1) trodAll_mk0)), rfl, bel.frame _, fun h => by cases h⟩

theorem over : Rows.fnExactAppendHopRow.holds Try.pinned (OpenSpec.ofChange Rows.fnExactAppendHopSpec) :=
  OpenClaim.holds_of_wide 3 Try.f3 rfl rfl rfl rfl rfl rfl rfl ⟨rfl, rfl, rfl, rfl, rfl⟩ rfl rfl rfl rfl rfl (by kernel_rfl) Try.func3 (by kernel_rfl)
    (of_decide_eq_true (by kernel_rfl)) (by unfold Func.isWrapper; first | (rw [if_pos (by decide +kernel)]; kernel_rfl) | (rw [if_neg (by decide +kernel)]; exact ⟨rfl, rfl⟩))
    (fun os started H enc _ => lifted os started H enc)

theorem proved : Rows.FnExactAppendHopSaid := over
#print axioms proved
end Go.Proofs.Ytpiilbcdiejjfaa.fnExactAppendHop
