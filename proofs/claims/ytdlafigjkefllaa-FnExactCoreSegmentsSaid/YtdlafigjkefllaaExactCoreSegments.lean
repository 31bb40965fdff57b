
/- For every segment database and every two integers, the law on CoreSegments returns true; no further condition. -/
import Derived.Test.YtdlafigjkefllaaRows
import Derived.WalkKit
import Derived.ProofKit
import Derived.OpenShut
import Derived.ShutString
import Derived.ChangeOld
import Derived.Below
import Derived.Test.YtdlafigjkefllaaOSegment
import Derived.Test.YtdlafigjkefllaaStruct
import Derived.Deep.RegionHeld3
import Derived.Test.YtdlafigjkefllaaCoreS2
import Derived.Test.YtdlafigjkefllaaEqSB
import Derived.Test.YtdlafigjkefllaaKSegmentDatabase
import Derived.Test.YtdlafigjkefllaaWSegment
namespace Go.Proofs.Ytdlafigjkefllaa.fnExactCoreSegments
open Go.ChangeShapes Go.WideShapes Go.ChangeAt Go.RowKit
open Go.ChangeMaps (open_string shut_string)
set_option linter.unusedVariables false

theorem own : ownKnob Try.prog.godebug = none := by kernel_rfl
theorem laidOut : laidOutB Try.prog = true := by kernel_rfl

theorem totSegment_szS (zs : List TSegment) (n : Nat) : sumTo totSegment zs n ≤ 5 * szSegment zs n := by
  have h : ∀ k, sumTo totSegment zs k ≤ 2 * k + 5 * sumTo seSegment zs k := by
    intro k
    induction k with
    | zero => simp [sumTo]
    | succ k ih => rw [sumTo, sumTo, show totSegment (zs.getD k default) = 2 + 5 * seSegment (zs.getD k default) from rfl]; omega
  have := h n
  unfold szSegment
  omega
theorem down_sz {p : TSegment → Bool} {zs : List TSegment} {n N : Nat} (hN : (filtUp p zs n).length = N) (h : szSegment zs n ≤ 1048576) : szSegment (filtUp p zs n) N ≤ 1048576 := by
  subst hN
  exact Nat.le_trans (filtUp_szS p zs n) h
theorem sumTo_app {f : TSegment → Nat} {l m : List TSegment} : sumTo f (l ++ m) (l.length + m.length) = sumTo f l l.length + sumTo f m m.length := by
  have h1 : ∀ q, q ≤ l.length → sumTo f (l ++ m) q = sumTo f l q := by
    intro q
    induction q with
    | zero => intro _; rfl
    | succ q ih => intro h; rw [sumTo, sumTo, ih (by omega), getD_app_lt (by omega)]
  have h2 : ∀ q, q ≤ m.length → sumTo f (l ++ m) (l.length + q) = sumTo f l l.length + sumTo f m q := by
    intro q
    induction q with
    | zero => intro _; rw [Nat.add_zero, h1 _ (Nat.le_refl _)]; rfl
    | succ q ih =>
      intro h
      show sumTo f (l ++ m) ((l.length + q) + 1) = _
      rw [sumTo, sumTo, ih (by omega), getD_app_ge (by omega), show l.length + q - l.length = q by omega]
      omega
  exact h2 _ (Nat.le_refl _)
theorem core_sz {p q : TSegment → Bool} {zs : List TSegment} {n N : Nat} (hN : (filtUp p zs n ++ filtUp q zs n).length = N) (h : szSegment zs n ≤ 1048576) : szSegment (filtUp p zs n ++ filtUp q zs n) N ≤ 2097152 := by
  subst hN
  have h1 := Nat.le_trans (filtUp_szS p zs n) h
  have h2 := Nat.le_trans (filtUp_szS q zs n) h
  unfold szSegment at h1 h2 ⊢
  rw [List.length_append, sumTo_app]
  omega

set_option maxRecDepth 100000 in
set_option maxHeartbeats 4000000 in
theorem walk (a0_0 : Option Addr) (n0_0 c0_0 : Nat) (z0_0 : List TSegment) (a0_1 : Option Addr) (n0_1 c0_1 : Nat) (z0_1 : List TSegment) (a1 : Int) (a2 : Int) (w : World) (h0_0 : HasSegment w w.heap.size a0_0 n0_0 z0_0) (m0_0 : n0_0 ≤ 9223372036854775807) (f0_0 : ∀ x ∈ z0_0, TSegment.fits x) (h0_1 : HasSegment w w.heap.size a0_1 n0_1 z0_1) (m0_1 : n0_1 ≤ 9223372036854775807) (f0_1 : ∀ x ∈ z0_1, TSegment.fits x) (w1 : (Lit.int .i64 a1).wf = true) (w2 : (Lit.int .i64 a2).wf = true) :
    Calls Try.prog 5 #[.agg #[.slice a0_0 n0_0 c0_0, .slice a0_1 n0_1 c0_1], .int .i64 a1, .int .i64 a2] w fun e w' => e = .returned (.bool true) ∧ Below w.heap.size w w' := by
  by_cases hbig0 : (1048576 : Int) < ((szSegment z0_0 n0_0 : Nat) : Int) + ((szSegment z0_1 n0_1 : Nat) : Int)
  · go_enter Try.func5, Try.ntmps5
    go_wp2_with fail
    have M0 : Mk0 w (w.alloc (Obj.cells #[Value.slice a0_0 n0_0 c0_0, Value.slice a0_1 n0_1 c0_1] 32)) := (Mk.alloc w _)
    have k0_0 : (w.alloc (Obj.cells #[Value.slice a0_0 n0_0 c0_0, Value.slice a0_1 n0_1 c0_1] 32)).cell? ⟨w.heap.size, 0, none⟩ = some (.slice a0_0 n0_0 c0_0) := by simp [go_sem]
    have k0_1 : (w.alloc (Obj.cells #[Value.slice a0_0 n0_0 c0_0, Value.slice a0_1 n0_1 c0_1] 32)).cell? ⟨w.heap.size, 1, none⟩ = some (.slice a0_1 n0_1 c0_1) := by simp [go_sem]
    refine (szSegmentDatabaseB _ _ _ _ _ _ z0_0 z0_1 w.heap.size _ _ (h0_0.mk M0 (Nat.le_refl _) (.inr (Nat.le_refl _))) (h0_1.mk M0 (Nat.le_refl _) (.inr (Nat.le_refl _))) M0.size (by omega) (by omega) (by omega) m0_0 m0_1).mono ?_
    rintro e w1 ⟨rfl, m1⟩
    go_wp2_with fail
    go_ret
    exact ⟨rfl, (M0.trans m1).below0⟩
  have hn0 : ((szSegment z0_0 n0_0 : Nat) : Int) + ((szSegment z0_1 n0_1 : Nat) : Int) ≤ (1048576 : Int) := by omega
  clear hbig0
  go_enter Try.func5, Try.ntmps5
  go_wp2_with fail
  have M0 : Mk0 w (w.alloc (Obj.cells #[Value.slice a0_0 n0_0 c0_0, Value.slice a0_1 n0_1 c0_1] 32)) := (Mk.alloc w _)
  have k0_0 : (w.alloc (Obj.cells #[Value.slice a0_0 n0_0 c0_0, Value.slice a0_1 n0_1 c0_1] 32)).cell? ⟨w.heap.size, 0, none⟩ = some (.slice a0_0 n0_0 c0_0) := by simp [go_sem]
  have k0_1 : (w.alloc (Obj.cells #[Value.slice a0_0 n0_0 c0_0, Value.slice a0_1 n0_1 c0_1] 32)).cell? ⟨w.heap.size, 1, none⟩ = some (.slice a0_1 n0_1 c0_1) := by simp [go_sem]
  refine (szSegmentDatabaseC _ _ _ _ _ _ z0_0 z0_1 w.heap.size _ _ (h0_0.mk M0 (Nat.le_refl _) (.inr (Nat.le_refl _))) (h0_1.mk M0 (Nat.le_refl _) (.inr (Nat.le_refl _))) M0.size (by omega) (by omega) (by omega)).mono ?_
  rintro e w1 ⟨l1, hl1, rfl, m1⟩
  have M1 := M0.trans m1
  replace k0_0 := m1.cellAt k0_0
  replace k0_1 := m1.cellAt k0_1
  have z1 := m1.size
  simp only [World.size_alloc] at z1
  go_wp2_with fail
  refine (toSegmentDatabaseC _ _ _ _ _ _ _ _ w.heap.size _ (h0_0.mk M1 (Nat.le_refl _) (.inr (Nat.le_refl _))) (h0_1.mk M1 (Nat.le_refl _) (.inr (Nat.le_refl _))) (by omega) (by omega) (by omega)).mono ?_
  rintro e w2 ⟨b1, b2, d3, rfl, o4, o5, g6, g7, m2⟩
  have M2 := M1.trans m2
  have z2 := m2.size
  replace k0_0 := m2.cellAt k0_0
  replace k0_1 := m2.cellAt k0_1
  have h8 := o4.has.mono (B' := w2.heap.size) (by omega)
  clear o4
  have h9 := o5.has.mono (B' := w2.heap.size) (by omega)
  clear o5
  go_wp2_with fail
  have hN0_0 : szSegment z0_0 n0_0 ≤ 1048576 := by omega
  have hN0_1 : szSegment z0_1 n0_1 ≤ 1048576 := by omega
  refine (specCore _ _ _ _ _ _ _ z0_1 a1 a2 _ h9 (by omega) hN0_1).mono ?_
  rintro e w3 ⟨A3, N3, C3, rfl, hc3, ow0, m3⟩
  clear hc3
  have hbw0 : szSegment (filtUp (between a1 a2) z0_1 n0_1 ++ filtUp (between a2 a1) z0_1 n0_1) N3 ≤ 2097152 := core_sz ow0.1 hN0_1
  have hbw0n : N3 ≤ 2097152 := Nat.le_trans (szSegment_n _ _) hbw0
  have hbw0t : sumTo totSegment (filtUp (between a1 a2) z0_1 n0_1 ++ filtUp (between a2 a1) z0_1 n0_1) N3 ≤ 10485760 := by have := totSegment_szS (filtUp (between a1 a2) z0_1 n0_1 ++ filtUp (between a2 a1) z0_1 n0_1) N3; omega
  have M3 := M2.trans m3
  have z3 := m3.size
  replace k0_0 := m3.cellAt k0_0
  replace k0_1 := m3.cellAt k0_1
  replace h8 := h8.mk m3 (by omega) (.inr (Nat.le_refl _))
  replace h9 := h9.mk m3 (by omega) (.inr (Nat.le_refl _))
  go_wp2_with fail
  refine (toSegmentDatabaseC _ _ _ _ _ _ _ _ w.heap.size _ (h0_0.mk M3 (Nat.le_refl _) (.inr (Nat.le_refl _))) (h0_1.mk M3 (Nat.le_refl _) (.inr (Nat.le_refl _))) (by omega) (by omega) (by omega)).mono ?_
  rintro e w4 ⟨b10, b11, d12, rfl, o13, o14, g15, g16, m4⟩
  have M4 := M3.trans m4
  have z4 := m4.size
  replace k0_0 := m4.cellAt k0_0
  replace k0_1 := m4.cellAt k0_1
  replace ow0 := ow0.mk m4 (by omega) (.inr (.inr (Nat.le_refl _)))
  have h17 := o13.has.mono (B' := w4.heap.size) (by omega)
  have h18 := o14.has.mono (B' := w4.heap.size) (by omega)
  go_wp2_with fail
  have xx_0 : (w4.alloc (Obj.cells #[Value.slice (some ⟨b10, 0, none⟩) n0_0 n0_0, Value.slice (some ⟨b11, 0, none⟩) n0_1 n0_1] 37)).cell? ⟨w4.heap.size, 0, none⟩ = some (.slice (some ⟨b10, 0, none⟩) n0_0 n0_0) := by rw [World.cell?_alloc_at _ _ _ _ rfl]; rfl
  have xx_1 : (w4.alloc (Obj.cells #[Value.slice (some ⟨b10, 0, none⟩) n0_0 n0_0, Value.slice (some ⟨b11, 0, none⟩) n0_1 n0_1] 37)).cell? ⟨w4.heap.size, 1, none⟩ = some (.slice (some ⟨b11, 0, none⟩) n0_1 n0_1) := by rw [World.cell?_alloc_at _ _ _ _ rfl]; rfl
  have m5 := Mk.alloc w4 (Obj.cells #[Value.slice (some ⟨b10, 0, none⟩) n0_0 n0_0, Value.slice (some ⟨b11, 0, none⟩) n0_1 n0_1] 37)
  replace k0_0 := m5.cellAt k0_0
  replace k0_1 := m5.cellAt k0_1
  replace h17 := h17.mk m5 (by omega) (.inr (Nat.le_refl _))
  replace h18 := h18.mk m5 (by omega) (.inr (Nat.le_refl _))
  replace o13 := o13.mk m5 (by omega) (.inr (.inr (Nat.le_refl _)))
  replace o14 := o14.mk m5 (by omega) (.inr (.inr (Nat.le_refl _)))
  replace ow0 := ow0.mk m5 (by omega) (.inr (.inr (Nat.le_refl _)))
  have M5 := M4.trans m5
  have z5 := m5.size
  have zz5 : w4.heap.size < (w4.alloc (Obj.cells #[Value.slice (some ⟨b10, 0, none⟩) n0_0 n0_0, Value.slice (some ⟨b11, 0, none⟩) n0_1 n0_1] 37)).heap.size := by rw [World.size_alloc]; omega
  generalize (w4.alloc (Obj.cells #[Value.slice (some ⟨b10, 0, none⟩) n0_0 n0_0, Value.slice (some ⟨b11, 0, none⟩) n0_1 n0_1] 37)) = w5 at *
  refine (implCore _ _ _ _ _ _ _ z0_1 a1 a2 _ h18 (by omega) hN0_1).mono ?_
  rintro e w6 ⟨A6, N6, C6, rfl, hc6, og0, m6⟩
  clear hc6
  obtain rfl : N3 = N6 := ow0.1.symm.trans og0.1
  have M6 := M5.trans m6
  have z6 := m6.size
  replace k0_0 := m6.cellAt k0_0
  replace k0_1 := m6.cellAt k0_1
  replace xx_0 := m6.cellAt xx_0
  replace xx_1 := m6.cellAt xx_1
  replace h17 := h17.mk m6 (by omega) (.inr (Nat.le_refl _))
  replace h18 := h18.mk m6 (by omega) (.inr (Nat.le_refl _))
  replace o13 := o13.mk m6 (by omega) (.inr (.inr (Nat.le_refl _)))
  replace o14 := o14.mk m6 (by omega) (.inr (.inr (Nat.le_refl _)))
  replace ow0 := ow0.mk m6 (by omega) (.inr (.inr (Nat.le_refl _)))
  go_wp2_with fail
  refine (eqSegmentSB _ _ _ _ _ _ _ _ _ og0.hasSegment ow0.hasSegment (by omega) (by omega) hbw0).mono ?_
  rintro e w7 ⟨rfl, m7⟩
  have M7 := M6.trans m7
  have z7 := m7.size
  replace k0_0 := m7.cellAt k0_0
  replace k0_1 := m7.cellAt k0_1
  replace xx_0 := m7.cellAt xx_0
  replace xx_1 := m7.cellAt xx_1
  replace h17 := h17.mk m7 (by omega) (.inr (Nat.le_refl _))
  replace h18 := h18.mk m7 (by omega) (.inr (Nat.le_refl _))
  replace o13 := o13.mk m7 (by omega) (.inr (.inr (Nat.le_refl _)))
  replace o14 := o14.mk m7 (by omega) (.inr (.inr (Nat.le_refl _)))
  replace ow0 := ow0.mk m7 (by omega) (.inr (.inr (Nat.le_refl _)))
  replace og0 := og0.mk m7 (by omega) (.inr (.inr (Nat.le_refl _)))
  go_wp2_with fail
  clear hN0_0 hN0_1
  have e19 : ∀ w', Mk0 w7 w' → HasSegment w' w4.heap.size (some ⟨b10, 0, none⟩) n0_0 z0_0 := fun w' m => h17.mk m (by omega) (.inr (Nat.le_refl _))
  have e20 : ∀ w', Mk0 w7 w' → HasSegment w' w4.heap.size (some ⟨b11, 0, none⟩) n0_1 z0_1 := fun w' m => h18.mk m (by omega) (.inr (Nat.le_refl _))
  have e21 : ∀ w', Mk0 w7 w' → w4.heap.size ≤ w'.heap.size := fun w' m => Nat.le_trans (by omega) m.size
  have e22 : ∀ w', Mk0 w7 w' → HasSegment w' w.heap.size a0_0 n0_0 z0_0 := fun w' m => h0_0.mk (M7.trans m) (Nat.le_refl _) (.inr (Nat.le_refl _))
  have e23 : ∀ w', Mk0 w7 w' → HasSegment w' w.heap.size a0_1 n0_1 z0_1 := fun w' m => h0_1.mk (M7.trans m) (Nat.le_refl _) (.inr (Nat.le_refl _))
  have hN0_0 : szSegment z0_0 n0_0 ≤ 1048576 := by omega
  have hN0_1 : szSegment z0_1 n0_1 ≤ 1048576 := by omega
  go_region_held3 (fun w' => Mk0 w7 w' ∧ w'.cell? ⟨w.heap.size, 0, none⟩ = some (.slice a0_0 n0_0 c0_0) ∧ w'.cell? ⟨w.heap.size, 1, none⟩ = some (.slice a0_1 n0_1 c0_1) ∧ w'.cell? ⟨w4.heap.size, 0, none⟩ = some (.slice (some ⟨b10, 0, none⟩) n0_0 n0_0) ∧ w'.cell? ⟨w4.heap.size, 1, none⟩ = some (.slice (some ⟨b11, 0, none⟩) n0_1 n0_1)) (first | exact ⟨Mk.drew1 _, k0_0, k0_1, xx_0, xx_1⟩ | (obtain ⟨s0, s1, s2, s3, s4⟩ := ‹Mk0 w7 _ ∧ _›; exact ⟨s0.trans mm, mm.cellAt s1, mm.cellAt s2, mm.cellAt s3, mm.cellAt s4⟩)) (first | (go_at_call 16; refine (toSegmentDatabaseC _ _ _ _ _ _ _ _ w.heap.size _ (e22 _ (‹Mk0 w7 _ ∧ _›).1) (e23 _ (‹Mk0 w7 _ ∧ _›).1) (M7.trans (‹Mk0 w7 _ ∧ _›).1).size hN0_0 hN0_1).mono ?_; rintro e wa ⟨bb0, bb1, dd0, rfl, oo0, oo1, gg0, gg1, mm⟩) | (go_at_call 19; refine (eqSegmentDatabaseC _ _ _ _ _ _ _ _ _ _ _ _ _ _ _ (e19 _ (‹Mk0 w7 _ ∧ _›).1) (e20 _ (‹Mk0 w7 _ ∧ _›).1) (oo0.has.mono gg1) (oo1.has.mono (Nat.le_refl _)) (e21 _ (‹Mk0 w7 _ ∧ _›).1) (Nat.le_refl _) hN0_0 hN0_1).mono ?_; rintro e wb8 ⟨rfl, mm⟩))
  obtain ⟨m8, k0_0, k0_1, xx_0, xx_1⟩ := ‹Mk0 w7 _ ∧ _›
  clear e19 e20 e21 e22 e23 hN0_0 hN0_1
  refine ‹∀ (a : Act) (w : World), _ → _› _ _ ?_
  have M8 := M7.trans m8
  have z8 := m8.size
  replace h17 := h17.mk m8 (by omega) (.inr (Nat.le_refl _))
  replace h18 := h18.mk m8 (by omega) (.inr (Nat.le_refl _))
  replace o13 := o13.mk m8 (by omega) (.inr (.inr (Nat.le_refl _)))
  replace o14 := o14.mk m8 (by omega) (.inr (.inr (Nat.le_refl _)))
  replace ow0 := ow0.mk m8 (by omega) (.inr (.inr (Nat.le_refl _)))
  replace og0 := og0.mk m8 (by omega) (.inr (.inr (Nat.le_refl _)))
  go_wp2_with fail
  refine (markSegmentDatabaseC _ _ _ _ _ _ _ _ w3.heap.size d12 w4.heap.size _ _ o13 o14 (by omega) (by omega) (by omega) (by omega) (by omega) (by omega) (by omega)).mono ?_
  rintro e w9 ⟨l9, hl9, rfl, m9⟩
  have M9 := M8.andR m9 (.inl (by omega))
  have z9 := m9.size
  replace k0_0 := m9.cellAtR k0_0 (by omega)
  replace k0_1 := m9.cellAtR k0_1 (by omega)
  replace xx_0 := m9.cellAtR xx_0 (by omega)
  replace xx_1 := m9.cellAtR xx_1 (by omega)
  replace ow0 := ow0.mk m9 (by omega) (by omega)
  replace og0 := og0.mk m9 (by omega) (by omega)
  go_wp2_with fail
  refine (eqSegmentSB _ _ _ _ _ _ _ _ _ og0.hasSegment ow0.hasSegment (by omega) (by omega) hbw0).mono ?_
  rintro e w10 ⟨rfl, m10⟩
  have M10 := M9.trans m10
  have z10 := m10.size
  replace k0_0 := m10.cellAt k0_0
  replace k0_1 := m10.cellAt k0_1
  replace xx_0 := m10.cellAt xx_0
  replace xx_1 := m10.cellAt xx_1
  replace ow0 := ow0.mk m10 (by omega) (.inr (.inr (Nat.le_refl _)))
  replace og0 := og0.mk m10 (by omega) (.inr (.inr (Nat.le_refl _)))
  go_wp2_with fail
  refine (markSegmentW _ _ _ w5.heap.size w6.heap.size _ _ _ og0 (by omega) hbw0t (by omega) (by omega) (by omega)).mono ?_
  rintro e w11 ⟨rfl, oo11, m11⟩
  replace og0 := oo11
  clear oo11
  have M11 := M10.andR m11 (.inl (by omega))
  have z11 := m11.size
  replace k0_0 := m11.cellAtR k0_0 (by omega)
  replace k0_1 := m11.cellAtR k0_1 (by omega)
  replace xx_0 := m11.cellAtR xx_0 (by omega)
  replace xx_1 := m11.cellAtR xx_1 (by omega)
  replace ow0 := ow0.mk m11 (by omega) (by omega)
  go_wp2_with fail
  refine (heldSegmentW _ _ _ _ _ (filtUp (between a1 a2) z0_1 n0_1 ++ filtUp (between a2 a1) z0_1 n0_1) _ og0.hasSegment (by omega) hbw0t (by omega) (by omega)).mono ?_
  rintro e w' ⟨rfl, rfl⟩
  go_wp2_with fail
  refine (toSegmentDatabaseC _ _ _ _ _ _ _ _ w.heap.size _ (h0_0.mk M11 (Nat.le_refl _) (.inr (Nat.le_refl _))) (h0_1.mk M11 (Nat.le_refl _) (.inr (Nat.le_refl _))) (by omega) (by omega) (by omega)).mono ?_
  rintro e w12 ⟨b24, b25, d26, rfl, o27, o28, g29, g30, m12⟩
  have M12 := M11.trans m12
  have z12 := m12.size
  replace k0_0 := m12.cellAt k0_0
  replace k0_1 := m12.cellAt k0_1
  replace xx_0 := m12.cellAt xx_0
  replace xx_1 := m12.cellAt xx_1
  replace ow0 := ow0.mk m12 (by omega) (.inr (.inr (Nat.le_refl _)))
  replace og0 := og0.mk m12 (by omega) (.inr (.inr (Nat.le_refl _)))
  have h31 := o27.has.mono (B' := w12.heap.size) (by omega)
  clear o27
  have h32 := o28.has.mono (B' := w12.heap.size) (by omega)
  clear o28
  go_wp2_with fail
  have hN0_0 : szSegment z0_0 n0_0 ≤ 1048576 := by omega
  have hN0_1 : szSegment z0_1 n0_1 ≤ 1048576 := by omega
  refine (implCore _ _ _ _ _ _ _ z0_1 a1 a2 _ h32 (by omega) hN0_1).mono ?_
  rintro e w13 ⟨A13, N13, C13, rfl, hc13, oh0, m13⟩
  clear hc13
  obtain rfl : N3 = N13 := ow0.1.symm.trans oh0.1
  have M13 := M12.trans m13
  have z13 := m13.size
  replace k0_0 := m13.cellAt k0_0
  replace k0_1 := m13.cellAt k0_1
  replace xx_0 := m13.cellAt xx_0
  replace xx_1 := m13.cellAt xx_1
  replace h31 := h31.mk m13 (by omega) (.inr (Nat.le_refl _))
  replace h32 := h32.mk m13 (by omega) (.inr (Nat.le_refl _))
  replace ow0 := ow0.mk m13 (by omega) (.inr (.inr (Nat.le_refl _)))
  replace og0 := og0.mk m13 (by omega) (.inr (.inr (Nat.le_refl _)))
  go_wp2_with fail
  refine (eqSegmentSB _ _ _ _ _ _ _ _ _ oh0.hasSegment ow0.hasSegment (by omega) (by omega) hbw0).mono ?_
  rintro e w14 ⟨rfl, m14⟩
  have M14 := M13.trans m14
  have z14 := m14.size
  replace k0_0 := m14.cellAt k0_0
  replace k0_1 := m14.cellAt k0_1
  replace xx_0 := m14.cellAt xx_0
  replace xx_1 := m14.cellAt xx_1
  replace ow0 := ow0.mk m14 (by omega) (.inr (.inr (Nat.le_refl _)))
  replace og0 := og0.mk m14 (by omega) (.inr (.inr (Nat.le_refl _)))
  replace oh0 := oh0.mk m14 (by omega) (.inr (.inr (Nat.le_refl _)))
  go_wp2_with fail
  refine (heldSegmentW _ _ _ _ _ (filtUp (between a1 a2) z0_1 n0_1 ++ filtUp (between a2 a1) z0_1 n0_1) _ og0.hasSegment (by omega) hbw0t (by omega) (by omega)).mono ?_
  rintro e w' ⟨rfl, rfl⟩
  go_wp2_with fail
  go_ret
  exact ⟨rfl, M14.below0⟩

set_option maxRecDepth 100000 in
theorem lifted (os : Os) (started : os.Started) (H : Type) (enc : TypeId × Value → H) :
    ReturnsInHanded {} Try.checked os 5 .any (Rows.fnExactCoreSegmentsSpec.pre6 enc Try.prog Try.f5 Rows.fnExactCoreSegmentsRow.domain false) (Rows.fnExactCoreSegmentsSpec.post enc Try.prog Try.f5 false true false false) := by
  refine returnsInHanded_of_change (C := Try.checked) own started (by kernel_rfl) Try.func5
    (ChangeSpec.witness6 (enc := enc) (C := Try.checked) false ⟨#[], #[.agg #[.slice none 0 0, .slice none 0 0], .int .i64 0, .int .i64 0], []⟩ 8 (by kernel_rfl) (by kernel_rfl) (by kernel_rfl) (by kernel_rfl)) ?_
  intro W base args ds gs before hval0 hW hcnd _
  have hval : ∀ (j : Nat) t v, Try.f5.params[j]? = some t → args[j]? = some v → Value.okWide Try.prog W .any base t v := hval0
  have hW' := hW
  obtain ⟨p, q, hA0, hV, rfl, hfz, hnd⟩ := hW
  have hA : DataW.TrodAll enc Try.prog W 0 (fun _ => true) true Try.f5.params.toList args.toList ds p := hA0
  rw [Try.params5] at hA hval
  obtain ⟨v0, vs0, d0, ds0, p0, q0, hargs, rfl, rfl, h0, r0⟩ := trodAll_cons hA
  obtain ⟨v1, vs1, d1, ds1, p1, q1, rfl, rfl, rfl, h1, r1⟩ := trodAll_cons r0
  obtain ⟨v2, vs2, d2, ds2, p2, q2, rfl, rfl, rfl, h2, r2⟩ := trodAll_cons r1
  obtain ⟨rfl, rfl, rfl⟩ := trodAll_nil r2
  obtain rfl : args = #[v0, v1, v2] := by cases args; simp_all
  obtain ⟨rfl, rfl⟩ := trodVars_none hV
  have k0 := h0
  have lt0 : ∀ x ∈ p0, x.block < W.heap.size := by obtain ⟨m, hm⟩ := k0; exact DataW.trod_lt m _ _ _ hm
  obtain ⟨cs0, rfl, hcs0, hf0⟩ := open_agg Try.underlying32 (by kernel_rfl) (by kernel_rfl) (hval 0 32 v0 rfl rfl) h0
  obtain ⟨_, _, _, e0_0, q0_0⟩ := hf0 0 _ rfl
  obtain ⟨a0_0, n0_0, c0_0, z0_0, rfl, m0_0, h0_0, f0_0⟩ := openSegmentS q0_0
  obtain ⟨_, _, _, e0_1, q0_1⟩ := hf0 1 _ rfl
  obtain ⟨a0_1, n0_1, c0_1, z0_1, rfl, m0_1, h0_1, f0_1⟩ := openSegmentS q0_1
  obtain rfl : cs0 = #[.slice a0_0 n0_0 c0_0, .slice a0_1 n0_1 c0_1] := arr_of [.slice a0_0 n0_0 c0_0, .slice a0_1 n0_1 c0_1] hcs0 (fun j hj => by match j, hj with | 0, _ => exact e0_0 | 1, _ => exact e0_1)
  obtain ⟨a1, rfl, rfl, rfl, w1⟩ := open_int Try.underlying3 (hval 1 3 v1 rfl rfl) h1
  obtain ⟨a2, rfl, rfl, rfl, w2⟩ := open_int Try.underlying3 (hval 2 3 v2 rfl rfl) h2
  clear hA0 hval0
  refine (walk a0_0 n0_0 c0_0 z0_0 a0_1 n0_1 c0_1 z0_1 a1 a2 W h0_0 m0_0 f0_0 h0_1 m0_1 f0_1 w1 w2).mono fun e W' ⟨he, bel⟩ => ?_
  subst he
  exact ⟨_, rfl, _, _, _, [], _, [], hW', trodAll_mk1 (shut_bool Try.underlying4 _), (trodAll_cons_mk (Below.trod laidOut (by kernel_rfl) (of_decide_eq_true (by kernel_rfl)) k0 bel lt0) (trodAll_cons_mk (shut_int Try.underlying3 w1) (trodAll_cons_mk (shut_int Try.underlying3 w2) trodAll_mk0))), rfl, bel.frame _, fun h => by cases h⟩

theorem over : Rows.fnExactCoreSegmentsRow.holds Try.pinned (OpenSpec.ofChange Rows.fnExactCoreSegmentsSpec) :=
  OpenClaim.holds_of_wide 5 Try.f5 rfl rfl rfl rfl rfl rfl rfl ⟨rfl, rfl, rfl, rfl, rfl⟩ rfl rfl rfl rfl rfl (by kernel_rfl) Try.func5 (by kernel_rfl)
    (of_decide_eq_true (by kernel_rfl)) (by unfold Func.isWrapper; first | (rw [if_pos (by decide +kernel)]; kernel_rfl) | (rw [if_neg (by decide +kernel)]; exact ⟨rfl, rfl⟩))
    (fun os started H enc _ => lifted os started H enc)

theorem proved : Rows.FnExactCoreSegmentsSaid := over
#print axioms proved
end Go.Proofs.Ytdlafigjkefllaa.fnExactCoreSegments
