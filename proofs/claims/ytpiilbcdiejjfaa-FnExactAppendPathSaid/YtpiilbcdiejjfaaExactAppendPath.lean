
/- For every byte slice and every path, the law on AppendPath returns true; no further condition. -/
import Derived.Test.YtpiilbcdiejjfaaRows
import Derived.WalkKit
import Derived.ProofKit
import Derived.OpenShut
import Derived.ShutString
import Derived.ChangeOld
import Derived.Below
import Derived.Test.YtpiilbcdiejjfaaOPathPart
import Derived.Test.YtpiilbcdiejjfaaStruct
import Derived.Deep.RegionHeld3
import Derived.Test.YtpiilbcdiejjfaaAddPath
import Derived.Test.YtpiilbcdiejjfaaKPath
import Derived.Test.YtpiilbcdiejjfaaByteR
namespace Go.Proofs.Ytpiilbcdiejjfaa.fnExactAppendPath
open Go.ChangeShapes Go.WideShapes Go.ChangeAt Go.RowKit
open Go.ChangeMaps (open_string shut_string)
set_option linter.unusedVariables false

theorem own : ownKnob Try.prog.godebug = none := by kernel_rfl
theorem laidOut : laidOutB Try.prog = true := by kernel_rfl

set_option maxRecDepth 100000 in
set_option maxHeartbeats 4000000 in
theorem walk (a0_ : Option Addr) (n0_ c0_ : Nat) (z0_ : List Int) (a1_0 : Option Addr) (n1_0 c1_0 : Nat) (z1_0 : List TPathPart) (w : World) (h0_ : HasByte w w.heap.size a0_ n0_ z0_) (m0_ : n0_ ≤ 9223372036854775807) (f0_ : ∀ z ∈ z0_, (Lit.int .u8 z).wf = true) (h1_0 : HasPathPart w w.heap.size a1_0 n1_0 z1_0) (m1_0 : n1_0 ≤ 9223372036854775807) (f1_0 : ∀ x ∈ z1_0, TPathPart.fits x) :
    Calls Try.prog 12 #[.slice a0_ n0_ c0_, .agg #[.slice a1_0 n1_0 c1_0]] w fun e w' => e = .returned (.bool true) ∧ Below w.heap.size w w' := by
  by_cases hbig0 : 1048576 < n0_
  · have hb0 : (1048576 : Int) < (n0_ : Int) := by omega
    go_enter Try.func12, Try.ntmps12
    go_wp2_with fail
    have M0 : Mk0 w (w.alloc (Obj.cells #[Value.slice a1_0 n1_0 c1_0] 76)) := (Mk.alloc w _)
    have k1_0 : (w.alloc (Obj.cells #[Value.slice a1_0 n1_0 c1_0] 76)).cell? ⟨w.heap.size, 0, none⟩ = some (.slice a1_0 n1_0 c1_0) := by simp [go_sem]
    go_ret
    exact ⟨rfl, M0.below0⟩
  have hn0 : n0_ ≤ 1048576 := by omega
  have hp0 : (n0_ : Int) ≤ 1048576 := by omega
  clear hbig0
  by_cases hbig1 : (1048576 : Int) < ((szPathPart z1_0 n1_0 : Nat) : Int)
  · go_enter Try.func12, Try.ntmps12
    go_wp2_with fail
    have M0 : Mk0 w (w.alloc (Obj.cells #[Value.slice a1_0 n1_0 c1_0] 76)) := (Mk.alloc w _)
    have k1_0 : (w.alloc (Obj.cells #[Value.slice a1_0 n1_0 c1_0] 76)).cell? ⟨w.heap.size, 0, none⟩ = some (.slice a1_0 n1_0 c1_0) := by simp [go_sem]
    refine (szPathB _ _ _ z1_0 w.heap.size _ _ (h1_0.mk M0 (Nat.le_refl _) (.inr (Nat.le_refl _))) M0.size (by omega) (by omega) (by omega) m1_0).mono ?_
    rintro e w1 ⟨rfl, m1⟩
    go_wp2_with fail
    go_ret
    exact ⟨rfl, (M0.trans m1).below0⟩
  have hn1 : ((szPathPart z1_0 n1_0 : Nat) : Int) ≤ (1048576 : Int) := by omega
  clear hbig1
  go_enter Try.func12, Try.ntmps12
  go_wp2_with fail
  have M0 : Mk0 w (w.alloc (Obj.cells #[Value.slice a1_0 n1_0 c1_0] 76)) := (Mk.alloc w _)
  have k1_0 : (w.alloc (Obj.cells #[Value.slice a1_0 n1_0 c1_0] 76)).cell? ⟨w.heap.size, 0, none⟩ = some (.slice a1_0 n1_0 c1_0) := by simp [go_sem]
  refine (szPathC _ _ _ z1_0 w.heap.size _ _ (h1_0.mk M0 (Nat.le_refl _) (.inr (Nat.le_refl _))) M0.size (by omega) (by omega) (by omega)).mono ?_
  rintro e w1 ⟨l1, hl1, rfl, m1⟩
  have M1 := M0.trans m1
  replace k1_0 := m1.cellAt k1_0
  have z1 := m1.size
  simp only [World.size_alloc] at z1
  go_wp2_with fail
  have e1 : ∀ w', Mk0 w1 w' → HasByte w' w.heap.size a0_ n0_ z0_ := fun w' m => h0_.mk (M1.trans m) (Nat.le_refl _) (.inr (Nat.le_refl _))
  have hN0_ : n0_ ≤ 1048576 := by omega
  have e2 : ∀ w', Mk0 w1 w' → HasPathPart w' w.heap.size a1_0 n1_0 z1_0 := fun w' m => h1_0.mk (M1.trans m) (Nat.le_refl _) (.inr (Nat.le_refl _))
  have hN1_0 : szPathPart z1_0 n1_0 ≤ 1048576 := by omega
  go_region_held3 (fun w' => Mk0 w1 w' ∧ w'.cell? ⟨w.heap.size, 0, none⟩ = some (.slice a1_0 n1_0 c1_0)) (first | exact ⟨Mk.drew1 _, k1_0⟩ | (obtain ⟨s0, s1⟩ := ‹Mk0 w1 _ ∧ _›; exact ⟨s0.trans mm, mm.cellAt s1⟩)) (first | (go_at_call 16; with_reducible refine (toByteS a0_ n0_ c0_ w.heap.size z0_ _ (e1 _ (‹Mk0 w1 _ ∧ _›).1) (M1.trans (‹Mk0 w1 _ ∧ _›).1).size hN0_).mono ?_; rintro e wc0 ⟨bc0_0, rfl, oc0_0, mc0⟩; have mm := mc0) | (go_at_call 48; with_reducible refine (toPathC a1_0 n1_0 c1_0 z1_0 w.heap.size _ (e2 _ (‹Mk0 w1 _ ∧ _›).1) (M1.trans (‹Mk0 w1 _ ∧ _›).1).size hN1_0).mono ?_; rintro e wc1 ⟨bc1_0, rfl, oc1_0, gc1_0, mc1⟩; have mm := mc1) | (go_at_call 53; refine (specAppPathR _ n1_0 _ _ z1_0 _ n0_ _ _ z0_ _ (by first | exact (oc1_0.has.mono (Nat.le_refl _)) | exact (oc1_0.has.mono (Nat.le_refl _)).mk mc0 (Nat.le_refl _) (.inr (Nat.le_refl _))) (by first | exact Nat.le_refl _ | exact mc0.size) hN1_0 (by first | exact (oc0_0.has.mono (Nat.le_refl _)) | exact (oc0_0.has.mono (Nat.le_refl _)).mk mc1 (Nat.le_refl _) (.inr (Nat.le_refl _))) (by first | exact Nat.le_refl _ | exact mc1.size) (fun h => by cases h) hN0_).mono ?_; rintro e wz2 ⟨A2, N2, c2, rfl, hc2, ow0, mm⟩))
  all_goals (
    obtain ⟨m2, k1_0⟩ := ‹Mk0 w1 _ ∧ _›
    refine ‹∀ (a : Act) (w : World), _ → _› _ _ ?_
    clear e1 hN0_ e2 hN1_0
    have M2 := M1.trans m2
    have z2 := m2.size
    replace ow0 := ow0.wide (lo' := w1.heap.size) (Nat.le_trans (mc0.size) mc1.size) (Nat.le_refl _)
    clear hc2
    have hbw0 : N2 ≤ 2097152 := by have h1 := ow0.1; have h2 := pathBytes_len z1_0 n1_0; have h3 := h0_.1; rw [List.length_append] at h1; omega
    go_wp2_with fail
    refine (toByteS _ _ _ w.heap.size _ _ (h0_.mk M2 (Nat.le_refl _) (.inr (Nat.le_refl _))) (by omega) (by omega)).mono ?_
    rintro e w3 ⟨b3, rfl, o4, m3⟩
    have M3 := M2.trans m3
    have z3 := m3.size
    replace k1_0 := m3.cellAt k1_0
    replace ow0 := ow0.mk m3 (by omega) (.inr (.inr (Nat.le_refl _)))
    have h5 := o4.has.mono (B' := w3.heap.size) (by omega)
    go_wp2_with fail
    refine (toPathC _ _ _ _ w.heap.size _ (h1_0.mk M3 (Nat.le_refl _) (.inr (Nat.le_refl _))) (by omega) (by omega)).mono ?_
    rintro e w4 ⟨b6, rfl, o7, g8, m4⟩
    have M4 := M3.trans m4
    have z4 := m4.size
    replace k1_0 := m4.cellAt k1_0
    replace h5 := h5.mk m4 (by omega) (.inr (Nat.le_refl _))
    replace o4 := o4.mk m4 (by omega) (.inr (.inr (Nat.le_refl _)))
    replace ow0 := ow0.mk m4 (by omega) (.inr (.inr (Nat.le_refl _)))
    have h9 := o7.has.mono (B' := w4.heap.size) (by omega)
    go_wp2_with fail
    have xx1_0 : (w4.alloc (Obj.cells #[Value.slice (some ⟨b6, 0, none⟩) n1_0 n1_0] 81)).cell? ⟨w4.heap.size, 0, none⟩ = some (.slice (some ⟨b6, 0, none⟩) n1_0 n1_0) := by rw [World.cell?_alloc_at _ _ _ _ rfl]; rfl
    have m5 := Mk.alloc w4 (Obj.cells #[Value.slice (some ⟨b6, 0, none⟩) n1_0 n1_0] 81)
    replace k1_0 := m5.cellAt k1_0
    replace h5 := h5.mk m5 (by omega) (.inr (Nat.le_refl _))
    replace h9 := h9.mk m5 (by omega) (.inr (Nat.le_refl _))
    replace o4 := o4.mk m5 (by omega) (.inr (.inr (Nat.le_refl _)))
    replace o7 := o7.mk m5 (by omega) (.inr (.inr (Nat.le_refl _)))
    replace ow0 := ow0.mk m5 (by omega) (.inr (.inr (Nat.le_refl _)))
    have M5 := M4.trans m5
    have z5 := m5.size
    have zz5 : w4.heap.size < (w4.alloc (Obj.cells #[Value.slice (some ⟨b6, 0, none⟩) n1_0 n1_0] 81)).heap.size := by rw [World.size_alloc]; omega
    generalize (w4.alloc (Obj.cells #[Value.slice (some ⟨b6, 0, none⟩) n1_0 n1_0] 81)) = w5 at *
    refine (implAppPathR _ n1_0 _ _ z1_0 _ n0_ _ _ z0_ _ h9 (by omega) (by omega) h5 (by omega) (fun h => by cases h) (by omega)).mono ?_
    rintro e w6 ⟨A6, N6, c6, rfl, hc6, og0, m6⟩
    clear hc6
    obtain rfl : N2 = N6 := ow0.1.symm.trans og0.1
    have M6 := M5.trans m6
    have z6 := m6.size
    replace k1_0 := m6.cellAt k1_0
    replace xx1_0 := m6.cellAt xx1_0
    replace h5 := h5.mk m6 (by omega) (.inr (Nat.le_refl _))
    replace h9 := h9.mk m6 (by omega) (.inr (Nat.le_refl _))
    replace o4 := o4.mk m6 (by omega) (.inr (.inr (Nat.le_refl _)))
    replace o7 := o7.mk m6 (by omega) (.inr (.inr (Nat.le_refl _)))
    replace ow0 := ow0.mk m6 (by omega) (.inr (.inr (Nat.le_refl _)))
    go_wp2_with fail
    refine (eqByteS _ _ _ _ _ _ _ _ _ og0.has ow0.has (by omega) (by omega) (by omega)).mono ?_
    rintro e w7 ⟨rfl, m7⟩
    have M7 := M6.trans m7
    have z7 := m7.size
    replace k1_0 := m7.cellAt k1_0
    replace xx1_0 := m7.cellAt xx1_0
    replace h5 := h5.mk m7 (by omega) (.inr (Nat.le_refl _))
    replace h9 := h9.mk m7 (by omega) (.inr (Nat.le_refl _))
    replace o4 := o4.mk m7 (by omega) (.inr (.inr (Nat.le_refl _)))
    replace o7 := o7.mk m7 (by omega) (.inr (.inr (Nat.le_refl _)))
    replace ow0 := ow0.mk m7 (by omega) (.inr (.inr (Nat.le_refl _)))
    replace og0 := og0.mk m7 (by omega) (.inr (.inr (Nat.le_refl _)))
    go_wp2_with fail
    refine (toByteS _ _ _ w.heap.size _ _ (h0_.mk M7 (Nat.le_refl _) (.inr (Nat.le_refl _))) (by omega) (by omega)).mono ?_
    rintro e w8 ⟨b10, rfl, o11, m8⟩
    have M8 := M7.trans m8
    have z8 := m8.size
    replace k1_0 := m8.cellAt k1_0
    replace xx1_0 := m8.cellAt xx1_0
    replace h5 := h5.mk m8 (by omega) (.inr (Nat.le_refl _))
    replace h9 := h9.mk m8 (by omega) (.inr (Nat.le_refl _))
    replace o4 := o4.mk m8 (by omega) (.inr (.inr (Nat.le_refl _)))
    replace o7 := o7.mk m8 (by omega) (.inr (.inr (Nat.le_refl _)))
    replace ow0 := ow0.mk m8 (by omega) (.inr (.inr (Nat.le_refl _)))
    replace og0 := og0.mk m8 (by omega) (.inr (.inr (Nat.le_refl _)))
    have h12 := o11.has.mono (B' := w8.heap.size) (by omega)
    clear o11
    go_wp2_with fail
    refine (eqByteS _ _ _ _ _ _ _ _ _ h5 h12 (by omega) (by omega) (by omega)).mono ?_
    rintro e w9 ⟨rfl, m9⟩
    have M9 := M8.trans m9
    have z9 := m9.size
    replace k1_0 := m9.cellAt k1_0
    replace xx1_0 := m9.cellAt xx1_0
    replace h5 := h5.mk m9 (by omega) (.inr (Nat.le_refl _))
    replace h9 := h9.mk m9 (by omega) (.inr (Nat.le_refl _))
    replace h12 := h12.mk m9 (by omega) (.inr (Nat.le_refl _))
    replace o4 := o4.mk m9 (by omega) (.inr (.inr (Nat.le_refl _)))
    replace o7 := o7.mk m9 (by omega) (.inr (.inr (Nat.le_refl _)))
    replace ow0 := ow0.mk m9 (by omega) (.inr (.inr (Nat.le_refl _)))
    replace og0 := og0.mk m9 (by omega) (.inr (.inr (Nat.le_refl _)))
    go_wp2_with fail
    have e13 : ∀ w', Mk0 w9 w' → HasPathPart w' w4.heap.size (some ⟨b6, 0, none⟩) n1_0 z1_0 := fun w' m => h9.mk m (by omega) (.inr (Nat.le_refl _))
    have e14 : ∀ w', Mk0 w9 w' → w4.heap.size ≤ w'.heap.size := fun w' m => Nat.le_trans (by omega) m.size
    have e15 : ∀ w', Mk0 w9 w' → HasPathPart w' w.heap.size a1_0 n1_0 z1_0 := fun w' m => h1_0.mk (M9.trans m) (Nat.le_refl _) (.inr (Nat.le_refl _))
    have hN1_0 : szPathPart z1_0 n1_0 ≤ 1048576 := by omega
    go_region_held3 (fun w' => Mk0 w9 w' ∧ w'.cell? ⟨w.heap.size, 0, none⟩ = some (.slice a1_0 n1_0 c1_0) ∧ w'.cell? ⟨w4.heap.size, 0, none⟩ = some (.slice (some ⟨b6, 0, none⟩) n1_0 n1_0)) (first | exact ⟨Mk.drew1 _, k1_0, xx1_0⟩ | (obtain ⟨s0, s1, s2⟩ := ‹Mk0 w9 _ ∧ _›; exact ⟨s0.trans mm, mm.cellAt s1, mm.cellAt s2⟩)) (first | (go_at_call 48; refine (toPathC _ _ _ _ w.heap.size _ (e15 _ (‹Mk0 w9 _ ∧ _›).1) (M9.trans (‹Mk0 w9 _ ∧ _›).1).size hN1_0).mono ?_; rintro e wa ⟨bb0, rfl, oo0, gg0, mm⟩) | (go_at_call 50; refine (eqPathC _ _ _ _ _ _ _ _ _ (e13 _ (‹Mk0 w9 _ ∧ _›).1) (oo0.has.mono (Nat.le_refl _)) (e14 _ (‹Mk0 w9 _ ∧ _›).1) (Nat.le_refl _) hN1_0).mono ?_; rintro e wb10 ⟨rfl, mm⟩))
    obtain ⟨m10, k1_0, xx1_0⟩ := ‹Mk0 w9 _ ∧ _›
    clear e13 e14 e15 hN1_0
    refine ‹∀ (a : Act) (w : World), _ → _› _ _ ?_
    have M10 := M9.trans m10
    have z10 := m10.size
    replace h5 := h5.mk m10 (by omega) (.inr (Nat.le_refl _))
    replace h9 := h9.mk m10 (by omega) (.inr (Nat.le_refl _))
    replace o4 := o4.mk m10 (by omega) (.inr (.inr (Nat.le_refl _)))
    replace o7 := o7.mk m10 (by omega) (.inr (.inr (Nat.le_refl _)))
    replace ow0 := ow0.mk m10 (by omega) (.inr (.inr (Nat.le_refl _)))
    replace og0 := og0.mk m10 (by omega) (.inr (.inr (Nat.le_refl _)))
    go_wp2_with fail
    clear h9
    refine (markByteS _ _ _ wz2.heap.size w3.heap.size _ _ _ o4 (by omega) (by omega) (by omega)).mono ?_
    rintro e w11 ⟨rfl, m11⟩
    have M11 := M10.andR m11 (.inl (by omega))
    have z11 := m11.size
    replace k1_0 := m11.cellAtR k1_0 (by omega)
    replace xx1_0 := m11.cellAtR xx1_0 (by omega)
    replace o7 := o7.mk m11 (by omega) (by omega)
    replace ow0 := ow0.mk m11 (by omega) (by omega)
    replace og0 := og0.mk m11 (by omega) (by omega)
    go_wp2_with fail
    refine (markPathC _ _ _ _ w3.heap.size w4.heap.size _ _ o7 (by omega) (by omega) (by omega) (by omega) (by omega)).mono ?_
    rintro e w12 ⟨l12, hl12, rfl, m12⟩
    have M12 := M11.andR m12 (.inl (by omega))
    have z12 := m12.size
    replace k1_0 := m12.cellAtR k1_0 (by omega)
    replace xx1_0 := m12.cellAtR xx1_0 (by omega)
    replace ow0 := ow0.mk m12 (by omega) (by omega)
    replace og0 := og0.mk m12 (by omega) (by omega)
    go_wp2_with fail
    refine (eqByteS _ _ _ _ _ _ _ _ _ og0.has ow0.has (by omega) (by omega) (by omega)).mono ?_
    rintro e w13 ⟨rfl, m13⟩
    have M13 := M12.trans m13
    have z13 := m13.size
    replace k1_0 := m13.cellAt k1_0
    replace xx1_0 := m13.cellAt xx1_0
    replace ow0 := ow0.mk m13 (by omega) (.inr (.inr (Nat.le_refl _)))
    replace og0 := og0.mk m13 (by omega) (.inr (.inr (Nat.le_refl _)))
    go_wp2_with fail
    refine (markByteM _ _ _ w5.heap.size w6.heap.size _ _ _ og0 (by omega) (by omega) (by omega)).mono ?_
    rintro e w14 ⟨rfl, oo14, m14⟩
    replace og0 := oo14
    clear oo14
    have M14 := M13.andR m14 (.inl (by omega))
    have z14 := m14.size
    replace k1_0 := m14.cellAtR k1_0 (by omega)
    replace xx1_0 := m14.cellAtR xx1_0 (by omega)
    replace ow0 := ow0.mk m14 (by omega) (by omega)
    go_wp2_with fail
    refine (heldByteM _ _ _ _ _ _ og0.has (by omega) (by omega) (by omega)).mono ?_
    rintro e w' ⟨rfl, rfl⟩
    go_wp2_with fail
    have e16 : ∀ w', Mk0 w14 w' → HasByte w' w.heap.size a0_ n0_ z0_ := fun w' m => h0_.mk (M14.trans m) (Nat.le_refl _) (.inr (Nat.le_refl _))
    have hN0_ : n0_ ≤ 1048576 := by omega
    have e17 : ∀ w', Mk0 w14 w' → HasPathPart w' w.heap.size a1_0 n1_0 z1_0 := fun w' m => h1_0.mk (M14.trans m) (Nat.le_refl _) (.inr (Nat.le_refl _))
    have hN1_0 : szPathPart z1_0 n1_0 ≤ 1048576 := by omega
    go_region_held3 (fun w' => Mk0 w14 w' ∧ w'.cell? ⟨w.heap.size, 0, none⟩ = some (.slice a1_0 n1_0 c1_0) ∧ w'.cell? ⟨w4.heap.size, 0, none⟩ = some (.slice (some ⟨b6, 0, none⟩) n1_0 n1_0)) (first | exact ⟨Mk.drew1 _, k1_0, xx1_0⟩ | (obtain ⟨s0, s1, s2⟩ := ‹Mk0 w14 _ ∧ _›; exact ⟨s0.trans mm, mm.cellAt s1, mm.cellAt s2⟩)) (first | (go_at_call 16; with_reducible refine (toByteS a0_ n0_ c0_ w.heap.size z0_ _ (e16 _ (‹Mk0 w14 _ ∧ _›).1) (M14.trans (‹Mk0 w14 _ ∧ _›).1).size hN0_).mono ?_; rintro e wc0 ⟨bc0_0, rfl, oc0_0, mc0⟩; have mm := mc0) | (go_at_call 48; with_reducible refine (toPathC a1_0 n1_0 c1_0 z1_0 w.heap.size _ (e17 _ (‹Mk0 w14 _ ∧ _›).1) (M14.trans (‹Mk0 w14 _ ∧ _›).1).size hN1_0).mono ?_; rintro e wc1 ⟨bc1_0, rfl, oc1_0, gc1_0, mc1⟩; have mm := mc1) | (go_at_call 54; refine (implAppPathR _ n1_0 _ _ z1_0 _ n0_ _ _ z0_ _ (by first | exact (oc1_0.has.mono (Nat.le_refl _)) | exact (oc1_0.has.mono (Nat.le_refl _)).mk mc0 (Nat.le_refl _) (.inr (Nat.le_refl _))) (by first | exact Nat.le_refl _ | exact mc0.size) hN1_0 (by first | exact (oc0_0.has.mono (Nat.le_refl _)) | exact (oc0_0.has.mono (Nat.le_refl _)).mk mc1 (Nat.le_refl _) (.inr (Nat.le_refl _))) (by first | exact Nat.le_refl _ | exact mc1.size) (fun h => by cases h) hN0_).mono ?_; rintro e wz15 ⟨A15, N15, c15, rfl, hc15, oh0, mm⟩))
    all_goals (
      obtain ⟨m15, k1_0, xx1_0⟩ := ‹Mk0 w14 _ ∧ _›
      refine ‹∀ (a : Act) (w : World), _ → _› _ _ ?_
      clear e16 hN0_ e17 hN1_0
      have M15 := M14.trans m15
      have z15 := m15.size
      replace oh0 := oh0.wide (lo' := w14.heap.size) (Nat.le_trans (mc0.size) mc1.size) (Nat.le_refl _)
      clear hc15
      obtain rfl : N2 = N15 := ow0.1.symm.trans oh0.1
      replace ow0 := ow0.mk m15 (by omega) (.inr (.inr (Nat.le_refl _)))
      replace og0 := og0.mk m15 (by omega) (.inr (.inr (Nat.le_refl _)))
      go_wp2_with fail
      refine (eqByteS _ _ _ _ _ _ _ _ _ oh0.has ow0.has (by omega) (by omega) (by omega)).mono ?_
      rintro e w16 ⟨rfl, m16⟩
      have M16 := M15.trans m16
      have z16 := m16.size
      replace k1_0 := m16.cellAt k1_0
      replace xx1_0 := m16.cellAt xx1_0
      replace ow0 := ow0.mk m16 (by omega) (.inr (.inr (Nat.le_refl _)))
      replace og0 := og0.mk m16 (by omega) (.inr (.inr (Nat.le_refl _)))
      replace oh0 := oh0.mk m16 (by omega) (.inr (.inr (Nat.le_refl _)))
      go_wp2_with fail
      refine (heldByteM _ _ _ _ _ _ og0.has (by omega) (by omega) (by omega)).mono ?_
      rintro e w' ⟨rfl, rfl⟩
      go_wp2_with fail
      go_ret
      exact ⟨rfl, M16.below0⟩))

set_option maxRecDepth 100000 in
theorem lifted (os : Os) (started : os.Started) (H : Type) (enc : TypeId × Value → H) :
    ReturnsInHanded {} Try.checked os 12 .any (Rows.fnExactAppendPathSpec.pre6 enc Try.prog Try.f12 Rows.fnExactAppendPathRow.domain false) (Rows.fnExactAppendPathSpec.post enc Try.prog Try.f12 false true false false) := by
  refine returnsInHanded_of_change (C := Try.checked) own started (by kernel_rfl) Try.func12
    (ChangeSpec.witness6 (enc := enc) (C := Try.checked) false ⟨#[], #[.slice none 0 0, .agg #[.slice none 0 0]], []⟩ 8 (by kernel_rfl) (by kernel_rfl) (by kernel_rfl) (by kernel_rfl)) ?_
  intro W base args ds gs before hval0 hW hcnd _
  have hval : ∀ (j : Nat) t v, Try.f12.params[j]? = some t → args[j]? = some v → Value.okWide Try.prog W .any base t v := hval0
  have hW' := hW
  obtain ⟨p, q, hA0, hV, rfl, hfz, hnd⟩ := hW
  have hA : DataW.TrodAll enc Try.prog W 0 (fun _ => true) true Try.f12.params.toList args.toList ds p := hA0
  rw [Try.params12] at hA hval
  obtain ⟨v0, vs0, d0, ds0, p0, q0, hargs, rfl, rfl, h0, r0⟩ := trodAll_cons hA
  obtain ⟨v1, vs1, d1, ds1, p1, q1, rfl, rfl, rfl, h1, r1⟩ := trodAll_cons r0
  obtain ⟨rfl, rfl, rfl⟩ := trodAll_nil r1
  obtain rfl : args = #[v0, v1] := by cases args; simp_all
  obtain ⟨rfl, rfl⟩ := trodVars_none hV
  obtain ⟨a0, len0, cap0, rfl⟩ := okWide_slice Try.underlying22 (hval 0 22 v0 rfl rfl)
  have k0 := h0
  have lt0 : ∀ x ∈ p0, x.block < W.heap.size := by obtain ⟨m, hm⟩ := k0; exact DataW.trod_lt m _ _ _ hm
  obtain ⟨z0, w0⟩ : ∃ zs, IsRow .u8 W a0 len0 cap0 zs := by
    obtain ⟨fuel, hf⟩ := h0
    rcases open_ints Try.underlying22 Try.underlying5 (by kernel_rfl) hf with ⟨hcs, _⟩ | ⟨x, l, c, zs, hcs, _, hl, hm, hz, _, hcell, hwz⟩
    · simp [Value.cells] at hcs
      obtain ⟨rfl, rfl, rfl⟩ := hcs
      exact ⟨[], .inl ⟨rfl, rfl, rfl, rfl⟩⟩
    · simp [Value.cells] at hcs
      obtain ⟨rfl, rfl, rfl⟩ := hcs
      exact ⟨zs, .inr ⟨_, rfl, hl, hm, by simpa using hz, hcell, hwz⟩⟩
  have k1 := h1
  have lt1 : ∀ x ∈ p1, x.block < W.heap.size := by obtain ⟨m, hm⟩ := k1; exact DataW.trod_lt m _ _ _ hm
  obtain ⟨cs1, rfl, hcs1, hf1⟩ := open_agg Try.underlying76 (by kernel_rfl) (by kernel_rfl) (hval 1 76 v1 rfl rfl) h1
  obtain ⟨_, _, _, e1_0, q1_0⟩ := hf1 0 _ rfl
  obtain ⟨a1_0, n1_0, c1_0, z1_0, rfl, m1_0, h1_0, f1_0⟩ := openPathPartS q1_0
  obtain rfl : cs1 = #[.slice a1_0 n1_0 c1_0] := arr_of [.slice a1_0 n1_0 c1_0] hcs1 (fun j hj => by match j, hj with | 0, _ => exact e1_0)
  clear hA0 hval0
  refine (walk a0 len0 cap0 (z0.take len0) a1_0 n1_0 c1_0 z1_0 W (hasR_int.2 w0.has) (isrow_len w0) w0.fits h1_0 m1_0 f1_0).mono fun e W' ⟨he, bel⟩ => ?_
  subst he
  exact ⟨_, rfl, _, _, _, [], _, [], hW', trodAll_mk1 (shut_bool Try.underlying4 _), (trodAll_cons_mk (Below.trod laidOut (by kernel_rfl) (of_decide_eq_true (by kernel_rfl)) k0 bel lt0) (trodAll_cons_mk (Below.trod laidOut (by kernel_rfl) (of_decide_eq_true (by kernel_rfl)) k1 bel lt1) trodAll_mk0)), rfl, bel.frame _, fun h => by cases h⟩

theorem over : Rows.fnExactAppendPathRow.holds Try.pinned (OpenSpec.ofChange Rows.fnExactAppendPathSpec) :=
  OpenClaim.holds_of_wide 12 Try.f12 rfl rfl rfl rfl rfl rfl rfl ⟨rfl, rfl, rfl, rfl, rfl⟩ rfl rfl rfl rfl rfl (by kernel_rfl) Try.func12 (by kernel_rfl)
    (of_decide_eq_true (by kernel_rfl)) (by unfold Func.isWrapper; first | (rw [if_pos (by decide +kernel)]; kernel_rfl) | (rw [if_neg (by decide +kernel)]; exact ⟨rfl, rfl⟩))
    (fun os started H enc _ => lifted os started H enc)

theorem proved : Rows.FnExactAppendPathSaid := over
#print axioms proved
end Go.Proofs.Ytpiilbcdiejjfaa.fnExactAppendPath
