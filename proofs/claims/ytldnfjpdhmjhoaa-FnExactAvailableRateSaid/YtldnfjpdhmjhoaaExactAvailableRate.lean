
/- For every list of reservations, every path and every two integers, the law on AvailableRate returns true; no further condition. -/
import Derived.Test.YtldnfjpdhmjhoaaRows
import Derived.WalkKit
import Derived.ProofKit
import Derived.OpenShut
import Derived.ShutString
import Derived.ChangeOld
import Derived.Below
import Derived.Test.YtldnfjpdhmjhoaaOReservation
import Derived.Test.YtldnfjpdhmjhoaaZReservation
import Derived.Test.YtldnfjpdhmjhoaaOPathPart
import Derived.Test.YtldnfjpdhmjhoaaStruct
import Derived.Deep.RegionHeld3
import Derived.Test.YtldnfjpdhmjhoaaPrL
import Derived.Test.YtldnfjpdhmjhoaaCPath
namespace Go.Proofs.Ytldnfjpdhmjhoaa.fnExactAvailableRate
open Go.ChangeShapes Go.WideShapes Go.ChangeAt Go.RowKit
open Go.ChangeMaps (open_string shut_string)
set_option linter.unusedVariables false

theorem own : ownKnob Try.prog.godebug = none := by kernel_rfl
theorem laidOut : laidOutB Try.prog = true := by kernel_rfl

set_option maxRecDepth 100000 in
set_option maxHeartbeats 4000000 in
theorem walk (a0_ : Option Addr) (n0_ c0_ : Nat) (z0_ : List TReservation) (a1_0 : Option Addr) (n1_0 c1_0 : Nat) (z1_0 : List TPathPart) (a2 : Int) (a3 : Int) (w : World) (h0_ : HasReservation w w.heap.size a0_ n0_ z0_) (m0_ : n0_ ≤ 9223372036854775807) (f0_ : ∀ x ∈ z0_, TReservation.fits x) (h1_0 : HasPathPart w w.heap.size a1_0 n1_0 z1_0) (m1_0 : n1_0 ≤ 9223372036854775807) (f1_0 : ∀ x ∈ z1_0, TPathPart.fits x) (w2 : (Lit.int .i64 a2).wf = true) (w3 : (Lit.int .i64 a3).wf = true) :
    Calls Try.prog 6 #[.slice a0_ n0_ c0_, .agg #[.slice a1_0 n1_0 c1_0], .int .i64 a2, .int .i64 a3] w fun e w' => e = .returned (.bool true) ∧ Below w.heap.size w w' := by
  by_cases hbig0 : (1048576 : Int) < (n0_ : Int)
  · go_enter Try.func6, Try.ntmps6
    go_wp2_with fail
    have M0 : Mk0 w (w.alloc (Obj.cells #[Value.slice a1_0 n1_0 c1_0] 24)) := (Mk.alloc w _)
    have k1_0 : (w.alloc (Obj.cells #[Value.slice a1_0 n1_0 c1_0] 24)).cell? ⟨w.heap.size, 0, none⟩ = some (.slice a1_0 n1_0 c1_0) := by simp [go_sem]
    refine (szReservationSB _ _ _ _ _ (by omega) (by omega) (by omega) m0_).mono ?_
    rintro e w' ⟨rfl, rfl⟩
    go_wp2_with fail
    go_ret
    exact ⟨rfl, M0.below0⟩
  have hn0 : (n0_ : Int) ≤ (1048576 : Int) := by omega
  clear hbig0
  by_cases hbig1 : (1048576 - n0_ : Int) < ((szPathPart z1_0 n1_0 : Nat) : Int)
  · go_enter Try.func6, Try.ntmps6
    go_wp2_with fail
    have M0 : Mk0 w (w.alloc (Obj.cells #[Value.slice a1_0 n1_0 c1_0] 24)) := (Mk.alloc w _)
    have k1_0 : (w.alloc (Obj.cells #[Value.slice a1_0 n1_0 c1_0] 24)).cell? ⟨w.heap.size, 0, none⟩ = some (.slice a1_0 n1_0 c1_0) := by simp [go_sem]
    refine (szReservationSC _ _ _ _ _ (by omega) (by omega) (by omega)).mono ?_
    rintro e w' ⟨rfl, rfl⟩
    go_wp2_with fail
    refine (szPathB _ _ _ z1_0 w.heap.size _ _ (h1_0.mk M0 (Nat.le_refl _) (.inr (Nat.le_refl _))) M0.size (by omega) (by omega) (by omega) m1_0).mono ?_
    rintro e w1 ⟨rfl, m1⟩
    go_wp2_with fail
    go_ret
    exact ⟨rfl, (M0.trans m1).below0⟩
  have hn1 : ((szPathPart z1_0 n1_0 : Nat) : Int) ≤ (1048576 - n0_ : Int) := by omega
  clear hbig1
  go_enter Try.func6, Try.ntmps6
  go_wp2_with fail
  have M0 : Mk0 w (w.alloc (Obj.cells #[Value.slice a1_0 n1_0 c1_0] 24)) := (Mk.alloc w _)
  have k1_0 : (w.alloc (Obj.cells #[Value.slice a1_0 n1_0 c1_0] 24)).cell? ⟨w.heap.size, 0, none⟩ = some (.slice a1_0 n1_0 c1_0) := by simp [go_sem]
  refine (szReservationSC _ _ _ _ _ (by omega) (by omega) (by omega)).mono ?_
  rintro e w' ⟨rfl, rfl⟩
  go_wp2_with fail
  refine (szPathC _ _ _ z1_0 w.heap.size _ _ (h1_0.mk M0 (Nat.le_refl _) (.inr (Nat.le_refl _))) M0.size (by omega) (by omega) (by omega)).mono ?_
  rintro e w1 ⟨l1, hl1, rfl, m1⟩
  have M1 := M0.trans m1
  replace k1_0 := m1.cellAt k1_0
  have z1 := m1.size
  simp only [World.size_alloc] at z1
  go_wp2_with fail
  have e1 : ∀ w', Mk0 w1 w' → HasReservation w' w.heap.size a0_ n0_ z0_ := fun w' m => h0_.mk (M1.trans m) (Nat.le_refl _) (.inr (Nat.le_refl _))
  have hN0_ : n0_ ≤ 1048576 := by omega
  have e2 : ∀ w', Mk0 w1 w' → HasPathPart w' w.heap.size a1_0 n1_0 z1_0 := fun w' m => h1_0.mk (M1.trans m) (Nat.le_refl _) (.inr (Nat.le_refl _))
  have hN1_0 : szPathPart z1_0 n1_0 ≤ 1048576 := by omega
  go_region_held3 (fun w' => Mk0 w1 w' ∧ w'.cell? ⟨w.heap.size, 0, none⟩ = some (.slice a1_0 n1_0 c1_0)) (first | exact ⟨Mk.drew1 _, k1_0⟩ | (obtain ⟨s0, s1⟩ := ‹Mk0 w1 _ ∧ _›; exact ⟨s0.trans mm, mm.cellAt s1⟩)) (first | (go_at_call 18; with_reducible refine (toReservationS a0_ n0_ c0_ w.heap.size z0_ _ (e1 _ (‹Mk0 w1 _ ∧ _›).1) (M1.trans (‹Mk0 w1 _ ∧ _›).1).size hN0_).mono ?_; rintro e wc0 ⟨bc0_0, rfl, oc0_0, mc0⟩; have mm := mc0) | (go_at_call 9; with_reducible refine (toPathC a1_0 n1_0 c1_0 z1_0 w.heap.size _ (e2 _ (‹Mk0 w1 _ ∧ _›).1) (M1.trans (‹Mk0 w1 _ ∧ _›).1).size hN1_0).mono ?_; rintro e wc1 ⟨bc1_0, rfl, oc1_0, gc1_0, mc1⟩; have mm := mc1) | (go_at_call 23; refine (specAvail a2 a3 _ _ _ _ z0_ _ _ _ _ z1_0 _ (by first | exact (oc0_0.has.mono (Nat.le_refl _)) | exact (oc0_0.has.mono (Nat.le_refl _)).mk mc1 (Nat.le_refl _) (.inr (Nat.le_refl _))) (by first | exact Nat.le_refl _ | exact mc1.size) hN0_ (by first | exact (oc1_0.has.mono (Nat.le_refl _)) | exact (oc1_0.has.mono (Nat.le_refl _)).mk mc0 (Nat.le_refl _) (.inr (Nat.le_refl _))) (by first | exact Nat.le_refl _ | exact mc0.size) hN1_0).mono ?_; rintro e wz2 ⟨rfl, mm⟩))
  all_goals (
    obtain ⟨m2, k1_0⟩ := ‹Mk0 w1 _ ∧ _›
    refine ‹∀ (a : Act) (w : World), _ → _› _ _ ?_
    clear e1 hN0_ e2 hN1_0
    have M2 := M1.trans m2
    have z2 := m2.size
    go_wp2_with fail
    refine (toReservationS _ _ _ w.heap.size _ _ (h0_.mk M2 (Nat.le_refl _) (.inr (Nat.le_refl _))) (by omega) (by omega)).mono ?_
    rintro e w3 ⟨b3, rfl, o4, m3⟩
    have M3 := M2.trans m3
    have z3 := m3.size
    replace k1_0 := m3.cellAt k1_0
    have h5 := o4.has.mono (B' := w3.heap.size) (by omega)
    clear o4
    go_wp2_with fail
    refine (toPathC _ _ _ _ w.heap.size _ (h1_0.mk M3 (Nat.le_refl _) (.inr (Nat.le_refl _))) (by omega) (by omega)).mono ?_
    rintro e w4 ⟨b6, rfl, o7, g8, m4⟩
    have M4 := M3.trans m4
    have z4 := m4.size
    replace k1_0 := m4.cellAt k1_0
    replace h5 := h5.mk m4 (by omega) (.inr (Nat.le_refl _))
    have h9 := o7.has.mono (B' := w4.heap.size) (by omega)
    clear o7
    go_wp2_with fail
    have xx1_0 : (w4.alloc (Obj.cells #[Value.slice (some ⟨b6, 0, none⟩) n1_0 n1_0] 30)).cell? ⟨w4.heap.size, 0, none⟩ = some (.slice (some ⟨b6, 0, none⟩) n1_0 n1_0) := by rw [World.cell?_alloc_at _ _ _ _ rfl]; rfl
    have m5 := Mk.alloc w4 (Obj.cells #[Value.slice (some ⟨b6, 0, none⟩) n1_0 n1_0] 30)
    replace k1_0 := m5.cellAt k1_0
    replace h5 := h5.mk m5 (by omega) (.inr (Nat.le_refl _))
    replace h9 := h9.mk m5 (by omega) (.inr (Nat.le_refl _))
    have M5 := M4.trans m5
    have z5 := m5.size
    have zz5 : w4.heap.size < (w4.alloc (Obj.cells #[Value.slice (some ⟨b6, 0, none⟩) n1_0 n1_0] 30)).heap.size := by rw [World.size_alloc]; omega
    generalize (w4.alloc (Obj.cells #[Value.slice (some ⟨b6, 0, none⟩) n1_0 n1_0] 30)) = w5 at *
    have hN0_ : n0_ ≤ 1048576 := by omega
    have hN1_0 : szPathPart z1_0 n1_0 ≤ 1048576 := by omega
    refine (implAvail a2 a3 _ _ _ _ z0_ _ _ _ _ z1_0 _ h5 (by omega) hN0_ h9 (by omega) hN1_0).mono ?_
    rintro e w6 ⟨rfl, m6⟩
    have M6 := M5.trans m6
    have z6 := m6.size
    replace k1_0 := m6.cellAt k1_0
    replace xx1_0 := m6.cellAt xx1_0
    replace h5 := h5.mk m6 (by omega) (.inr (Nat.le_refl _))
    replace h9 := h9.mk m6 (by omega) (.inr (Nat.le_refl _))
    go_wp2_with fail
    refine (toReservationS _ _ _ w.heap.size _ _ (h0_.mk M6 (Nat.le_refl _) (.inr (Nat.le_refl _))) (by omega) (by omega)).mono ?_
    rintro e w7 ⟨b10, rfl, o11, m7⟩
    have M7 := M6.trans m7
    have z7 := m7.size
    replace k1_0 := m7.cellAt k1_0
    replace xx1_0 := m7.cellAt xx1_0
    replace h5 := h5.mk m7 (by omega) (.inr (Nat.le_refl _))
    replace h9 := h9.mk m7 (by omega) (.inr (Nat.le_refl _))
    have h12 := o11.has.mono (B' := w7.heap.size) (by omega)
    clear o11
    go_wp2_with fail
    refine (eqReservationS _ _ _ _ _ _ _ _ _ h5 h12 (by omega) (by omega) (by omega)).mono ?_
    rintro e w8 ⟨rfl, m8⟩
    have M8 := M7.trans m8
    have z8 := m8.size
    replace k1_0 := m8.cellAt k1_0
    replace xx1_0 := m8.cellAt xx1_0
    replace h5 := h5.mk m8 (by omega) (.inr (Nat.le_refl _))
    replace h9 := h9.mk m8 (by omega) (.inr (Nat.le_refl _))
    replace h12 := h12.mk m8 (by omega) (.inr (Nat.le_refl _))
    go_wp2_with fail
    have e13 : ∀ w', Mk0 w8 w' → HasPathPart w' w4.heap.size (some ⟨b6, 0, none⟩) n1_0 z1_0 := fun w' m => h9.mk m (by omega) (.inr (Nat.le_refl _))
    have e14 : ∀ w', Mk0 w8 w' → w4.heap.size ≤ w'.heap.size := fun w' m => Nat.le_trans (by omega) m.size
    have e15 : ∀ w', Mk0 w8 w' → HasPathPart w' w.heap.size a1_0 n1_0 z1_0 := fun w' m => h1_0.mk (M8.trans m) (Nat.le_refl _) (.inr (Nat.le_refl _))
    have hN1_0 : szPathPart z1_0 n1_0 ≤ 1048576 := by omega
    go_region_held3 (fun w' => Mk0 w8 w' ∧ w'.cell? ⟨w.heap.size, 0, none⟩ = some (.slice a1_0 n1_0 c1_0) ∧ w'.cell? ⟨w4.heap.size, 0, none⟩ = some (.slice (some ⟨b6, 0, none⟩) n1_0 n1_0)) (first | exact ⟨Mk.drew1 _, k1_0, xx1_0⟩ | (obtain ⟨s0, s1, s2⟩ := ‹Mk0 w8 _ ∧ _›; exact ⟨s0.trans mm, mm.cellAt s1, mm.cellAt s2⟩)) (first | (go_at_call 9; refine (toPathC _ _ _ _ w.heap.size _ (e15 _ (‹Mk0 w8 _ ∧ _›).1) (M8.trans (‹Mk0 w8 _ ∧ _›).1).size hN1_0).mono ?_; rintro e wa ⟨bb0, rfl, oo0, gg0, mm⟩) | (go_at_call 12; refine (eqPathC _ _ _ _ _ _ _ _ _ (e13 _ (‹Mk0 w8 _ ∧ _›).1) (oo0.has.mono (Nat.le_refl _)) (e14 _ (‹Mk0 w8 _ ∧ _›).1) (Nat.le_refl _) hN1_0).mono ?_; rintro e wb9 ⟨rfl, mm⟩))
    obtain ⟨m9, k1_0, xx1_0⟩ := ‹Mk0 w8 _ ∧ _›
    clear e13 e14 e15 hN1_0
    refine ‹∀ (a : Act) (w : World), _ → _› _ _ ?_
    have M9 := M8.trans m9
    have z9 := m9.size
    replace h9 := h9.mk m9 (by omega) (.inr (Nat.le_refl _))
    go_wp2_with fail
    go_ret
    exact ⟨rfl, M9.below0⟩)

set_option maxRecDepth 100000 in
theorem lifted (os : Os) (started : os.Started) (H : Type) (enc : TypeId × Value → H) :
    ReturnsInHanded {} Try.checked os 6 .any (Rows.fnExactAvailableRateSpec.pre6 enc Try.prog Try.f6 Rows.fnExactAvailableRateRow.domain false) (Rows.fnExactAvailableRateSpec.post enc Try.prog Try.f6 false true false false) := by
  refine returnsInHanded_of_change (C := Try.checked) own started (by kernel_rfl) Try.func6
    (ChangeSpec.witness6 (enc := enc) (C := Try.checked) false ⟨#[], #[.slice none 0 0, .agg #[.slice none 0 0], .int .i64 0, .int .i64 0], []⟩ 8 (by kernel_rfl) (by kernel_rfl) (by kernel_rfl) (by kernel_rfl)) ?_
  intro W base args ds gs before hval0 hW hcnd _
  have hval : ∀ (j : Nat) t v, Try.f6.params[j]? = some t → args[j]? = some v → Value.okWide Try.prog W .any base t v := hval0
  have hW' := hW
  obtain ⟨p, q, hA0, hV, rfl, hfz, hnd⟩ := hW
  have hA : DataW.TrodAll enc Try.prog W 0 (fun _ => true) true Try.f6.params.toList args.toList ds p := hA0
  rw [Try.params6] at hA hval
  obtain ⟨v0, vs0, d0, ds0, p0, q0, hargs, rfl, rfl, h0, r0⟩ := trodAll_cons hA
  obtain ⟨v1, vs1, d1, ds1, p1, q1, rfl, rfl, rfl, h1, r1⟩ := trodAll_cons r0
  obtain ⟨v2, vs2, d2, ds2, p2, q2, rfl, rfl, rfl, h2, r2⟩ := trodAll_cons r1
  obtain ⟨v3, vs3, d3, ds3, p3, q3, rfl, rfl, rfl, h3, r3⟩ := trodAll_cons r2
  obtain ⟨rfl, rfl, rfl⟩ := trodAll_nil r3
  obtain rfl : args = #[v0, v1, v2, v3] := by cases args; simp_all
  obtain ⟨rfl, rfl⟩ := trodVars_none hV
  have k0 := h0
  have lt0 : ∀ x ∈ p0, x.block < W.heap.size := by obtain ⟨m, hm⟩ := k0; exact DataW.trod_lt m _ _ _ hm
  obtain ⟨b0, l0, g0, rfl⟩ := okWide_slice Try.underlying37 (hval 0 37 v0 rfl rfl)
  obtain ⟨fu0, hfu0⟩ := h0
  rw [show (Value.slice b0 l0 g0).cells.toList = [.slice b0 l0 g0] from rfl] at hfu0
  obtain ⟨a0, n0, c0, z0, hv0, m0, h0, f0⟩ := openReservationS hfu0
  injection hv0 with e1 e2 e3
  subst e1 e2 e3
  have k1 := h1
  have lt1 : ∀ x ∈ p1, x.block < W.heap.size := by obtain ⟨m, hm⟩ := k1; exact DataW.trod_lt m _ _ _ hm
  obtain ⟨cs1, rfl, hcs1, hf1⟩ := open_agg Try.underlying24 (by kernel_rfl) (by kernel_rfl) (hval 1 24 v1 rfl rfl) h1
  obtain ⟨_, _, _, e1_0, q1_0⟩ := hf1 0 _ rfl
  obtain ⟨a1_0, n1_0, c1_0, z1_0, rfl, m1_0, h1_0, f1_0⟩ := openPathPartS q1_0
  obtain rfl : cs1 = #[.slice a1_0 n1_0 c1_0] := arr_of [.slice a1_0 n1_0 c1_0] hcs1 (fun j hj => by match j, hj with | 0, _ => exact e1_0)
  obtain ⟨a2, rfl, rfl, rfl, w2⟩ := open_int Try.underlying3 (hval 2 3 v2 rfl rfl) h2
  obtain ⟨a3, rfl, rfl, rfl, w3⟩ := open_int Try.underlying3 (hval 3 3 v3 rfl rfl) h3
  clear hA0 hval0
  refine (walk b0 l0 g0 z0 a1_0 n1_0 c1_0 z1_0 a2 a3 W h0 m0 f0 h1_0 m1_0 f1_0 w2 w3).mono fun e W' ⟨he, bel⟩ => ?_
  subst he
  exact ⟨_, rfl, _, _, _, [], _, [], hW', trodAll_mk1 (shut_bool Try.underlying4 _), (trodAll_cons_mk (Below.trod laidOut (by kernel_rfl) (of_decide_eq_true (by kernel_rfl)) k0 bel lt0) (trodAll_cons_mk (Below.trod laidOut (by kernel_rfl) (of_decide_eq_true (by kernel_rfl)) k1 bel lt1) (trodAll_cons_mk (shut_int Try.underlying3 w2) (trodAll_cons_mk (shut_int Try.underlying3 w3) trodAll_mk0)))), rfl, bel.frame _, fun h => by cases h⟩

theorem over : Rows.fnExactAvailableRateRow.holds Try.pinned (OpenSpec.ofChange Rows.fnExactAvailableRateSpec) :=
  OpenClaim.holds_of_wide 6 Try.f6 rfl rfl rfl rfl rfl rfl rfl ⟨rfl, rfl, rfl, rfl, rfl⟩ rfl rfl rfl rfl rfl (by kernel_rfl) Try.func6 (by kernel_rfl)
    (of_decide_eq_true (by kernel_rfl)) (by unfold Func.isWrapper; first | (rw [if_pos (by decide +kernel)]; kernel_rfl) | (rw [if_neg (by decide +kernel)]; exact ⟨rfl, rfl⟩))
    (fun os started H enc _ => lifted os started H enc)

theorem proved : Rows.FnExactAvailableRateSaid := over
#print axioms proved
end Go.Proofs.Ytldnfjpdhmjhoaa.fnExactAvailableRate
