
/- For every list of reservations, the law on ReservationIDs returns true; no further condition. -/
import Derived.Test.YtdbaecgbhadkbaaRows
import Derived.WalkKit
import Derived.ProofKit
import Derived.OpenShut
import Derived.ShutString
import Derived.ChangeOld
import Derived.Below
import Derived.Test.YtdbaecgbhadkbaaOReservation
import Derived.Test.YtdbaecgbhadkbaaZReservation
import Derived.Test.YtdbaecgbhadkbaaRids
import Derived.Test.YtdbaecgbhadkbaaMReservation
import Derived.Test.YtdbaecgbhadkbaaIntMark
namespace Go.Proofs.Ytdbaecgbhadkbaa.fnExactReservationIDs
open Go.ChangeShapes Go.WideShapes Go.ChangeAt Go.RowKit
open Go.ChangeMaps (open_string shut_string)
set_option linter.unusedVariables false

theorem own : ownKnob Try.prog.godebug = none := by kernel_rfl
theorem laidOut : laidOutB Try.prog = true := by kernel_rfl

set_option maxRecDepth 100000 in
set_option maxHeartbeats 4000000 in
theorem walk (a0_ : Option Addr) (n0_ c0_ : Nat) (z0_ : List TReservation) (w : World) (h0_ : HasReservation w w.heap.size a0_ n0_ z0_) (m0_ : n0_ ≤ 9223372036854775807) (f0_ : ∀ x ∈ z0_, TReservation.fits x) :
    Calls Try.prog 10 #[.slice a0_ n0_ c0_] w fun e w' => e = .returned (.bool true) ∧ Below w.heap.size w w' := by
  by_cases hbig0 : (1048576 : Int) < (n0_ : Int)
  · go_enter Try.func10, Try.ntmps10
    go_wp2_with fail
    have M0 : Mk0 w w := Mk.refl 0 0 w
    refine (szReservationSB _ _ _ _ _ (by omega) (by omega) (by omega) m0_).mono ?_
    rintro e w' ⟨rfl, rfl⟩
    go_wp2_with fail
    go_ret
    exact ⟨rfl, M0.below0⟩
  have hn0 : (n0_ : Int) ≤ (1048576 : Int) := by omega
  clear hbig0
  go_enter Try.func10, Try.ntmps10
  go_wp2_with fail
  have M0 : Mk0 w w := Mk.refl 0 0 w
  refine (szReservationSC _ _ _ _ _ (by omega) (by omega) (by omega)).mono ?_
  rintro e w' ⟨rfl, rfl⟩
  go_wp2_with fail
  refine (toReservationS _ _ _ w.heap.size _ _ (h0_.mk M0 (Nat.le_refl _) (.inr (Nat.le_refl _))) (by omega) (by omega)).mono ?_
  rintro e w1 ⟨b1, rfl, o2, m1⟩
  have M1 := M0.trans m1
  have z1 := m1.size
  have h3 := o2.has.mono (B' := w1.heap.size) (by omega)
  clear o2
  go_wp2_with fail
  refine ((specRids _ _ _ _ z0_ _ h3 (by omega) (by omega))).mono ?_
  rintro e w2 ⟨A2, N2, c2, rfl, hc2, oo2, bb2⟩
  have m2 := Mk.of_below bb2
  have ow0 := oo2.toR (hi := w2.heap.size) (Nat.le_refl _)
  clear oo2 bb2 hc2
  have hbw0 : N2 ≤ 1073741824 := by have := ow0.1; have h2 := uniqL_len (ridUp z0_ n0_); rw [ridUp_len] at h2; omega
  have M2 := M1.trans m2
  have z2 := m2.size
  replace h3 := h3.mk m2 (by omega) (.inr (Nat.le_refl _))
  go_wp2_with fail
  refine (toReservationS _ _ _ w.heap.size _ _ (h0_.mk M2 (Nat.le_refl _) (.inr (Nat.le_refl _))) (by omega) (by omega)).mono ?_
  rintro e w3 ⟨b4, rfl, o5, m3⟩
  have M3 := M2.trans m3
  have z3 := m3.size
  replace ow0 := ow0.mk m3 (by omega) (.inr (.inr (Nat.le_refl _)))
  have h6 := o5.has.mono (B' := w3.heap.size) (by omega)
  go_wp2_with fail
  refine ((implRids _ _ _ _ z0_ _ h6 (by omega) (by omega))).mono ?_
  rintro e w4 ⟨A4, N4, c4, rfl, hc4, oo4, bb4⟩
  have m4 := Mk.of_below bb4
  have og0 := oo4.toR (hi := w4.heap.size) (Nat.le_refl _)
  clear oo4 bb4 hc4
  obtain rfl : N2 = N4 := ow0.1.symm.trans og0.1
  have M4 := M3.trans m4
  have z4 := m4.size
  replace h6 := h6.mk m4 (by omega) (.inr (Nat.le_refl _))
  replace o5 := o5.mk m4 (by omega) (.inr (.inr (Nat.le_refl _)))
  replace ow0 := ow0.mk m4 (by omega) (.inr (.inr (Nat.le_refl _)))
  go_wp2_with fail
  refine (eqInt _ _ _ _ _ _ _ _ _ (hasR_int.1 og0.has) (hasR_int.1 ow0.has) hbw0).mono ?_
  rintro e w5 ⟨rfl, mm5, hw5⟩
  have m5 : Mk0 w4 w5 := by rw [hw5]; exact Mk.drewN _ _
  clear hw5
  have M5 := M4.trans m5
  have z5 := m5.size
  replace h6 := h6.mk m5 (by omega) (.inr (Nat.le_refl _))
  replace o5 := o5.mk m5 (by omega) (.inr (.inr (Nat.le_refl _)))
  replace ow0 := ow0.mk m5 (by omega) (.inr (.inr (Nat.le_refl _)))
  replace og0 := og0.mk m5 (by omega) (.inr (.inr (Nat.le_refl _)))
  go_wp2_with fail
  refine (toReservationS _ _ _ w.heap.size _ _ (h0_.mk M5 (Nat.le_refl _) (.inr (Nat.le_refl _))) (by omega) (by omega)).mono ?_
  rintro e w6 ⟨b7, rfl, o8, m6⟩
  have M6 := M5.trans m6
  have z6 := m6.size
  replace h6 := h6.mk m6 (by omega) (.inr (Nat.le_refl _))
  replace o5 := o5.mk m6 (by omega) (.inr (.inr (Nat.le_refl _)))
  replace ow0 := ow0.mk m6 (by omega) (.inr (.inr (Nat.le_refl _)))
  replace og0 := og0.mk m6 (by omega) (.inr (.inr (Nat.le_refl _)))
  have h9 := o8.has.mono (B' := w6.heap.size) (by omega)
  clear o8
  go_wp2_with fail
  refine (eqReservationS _ _ _ _ _ _ _ _ _ h6 h9 (by omega) (by omega) (by omega)).mono ?_
  rintro e w7 ⟨rfl, m7⟩
  have M7 := M6.trans m7
  have z7 := m7.size
  replace h6 := h6.mk m7 (by omega) (.inr (Nat.le_refl _))
  replace h9 := h9.mk m7 (by omega) (.inr (Nat.le_refl _))
  replace o5 := o5.mk m7 (by omega) (.inr (.inr (Nat.le_refl _)))
  replace ow0 := ow0.mk m7 (by omega) (.inr (.inr (Nat.le_refl _)))
  replace og0 := og0.mk m7 (by omega) (.inr (.inr (Nat.le_refl _)))
  go_wp2_with fail
  refine (markReservationS _ _ _ w2.heap.size w3.heap.size _ _ _ o5 (by omega) (by omega) (by omega)).mono ?_
  rintro e w8 ⟨rfl, m8⟩
  have M8 := M7.andR m8 (.inl (by omega))
  have z8 := m8.size
  replace ow0 := ow0.mk m8 (by omega) (by omega)
  replace og0 := og0.mk m8 (by omega) (by omega)
  go_wp2_with fail
  refine (eqInt _ _ _ _ _ _ _ _ _ (hasR_int.1 og0.has) (hasR_int.1 ow0.has) hbw0).mono ?_
  rintro e w9 ⟨rfl, mm9, hw9⟩
  have m9 : Mk0 w8 w9 := by rw [hw9]; exact Mk.drewN _ _
  clear hw9
  have M9 := M8.trans m9
  have z9 := m9.size
  replace ow0 := ow0.mk m9 (by omega) (.inr (.inr (Nat.le_refl _)))
  replace og0 := og0.mk m9 (by omega) (.inr (.inr (Nat.le_refl _)))
  go_wp2_with fail
  refine (markInt _ _ _ w3.heap.size _ _ _ (og0.int (by omega)) hbw0 (by omega) (by omega)).mono ?_
  rintro e w10 ⟨rfl, oo10, gg10⟩
  have m10 : Mk w3.heap.size w4.heap.size w9 w10 := Mk.of_grown gg10 og0.row
  replace og0 := Own.toR_far og0 oo10
  clear oo10 gg10
  have M10 := M9.andR m10 (.inl (by omega))
  have z10 := m10.size
  replace ow0 := ow0.mk m10 (by omega) (by omega)
  go_wp2_with fail
  refine (heldInt _ _ _ _ _ _ (hasR_int.1 og0.has) hbw0 (by omega) (by omega)).mono ?_
  rintro e w' ⟨rfl, rfl⟩
  go_wp2_with fail
  refine (toReservationS _ _ _ w.heap.size _ _ (h0_.mk M10 (Nat.le_refl _) (.inr (Nat.le_refl _))) (by omega) (by omega)).mono ?_
  rintro e w11 ⟨b10, rfl, o11, m11⟩
  have M11 := M10.trans m11
  have z11 := m11.size
  replace ow0 := ow0.mk m11 (by omega) (.inr (.inr (Nat.le_refl _)))
  replace og0 := og0.mk m11 (by omega) (.inr (.inr (Nat.le_refl _)))
  have h12 := o11.has.mono (B' := w11.heap.size) (by omega)
  clear o11
  go_wp2_with fail
  refine ((implRids _ _ _ _ z0_ _ h12 (by omega) (by omega))).mono ?_
  rintro e w12 ⟨A12, N12, c12, rfl, hc12, oo12, bb12⟩
  have m12 := Mk.of_below bb12
  have oh0 := oo12.toR (hi := w12.heap.size) (Nat.le_refl _)
  clear oo12 bb12 hc12
  obtain rfl : N2 = N12 := ow0.1.symm.trans oh0.1
  have M12 := M11.trans m12
  have z12 := m12.size
  replace h12 := h12.mk m12 (by omega) (.inr (Nat.le_refl _))
  replace ow0 := ow0.mk m12 (by omega) (.inr (.inr (Nat.le_refl _)))
  replace og0 := og0.mk m12 (by omega) (.inr (.inr (Nat.le_refl _)))
  go_wp2_with fail
  refine (eqInt _ _ _ _ _ _ _ _ _ (hasR_int.1 oh0.has) (hasR_int.1 ow0.has) hbw0).mono ?_
  rintro e w13 ⟨rfl, mm13, hw13⟩
  have m13 : Mk0 w12 w13 := by rw [hw13]; exact Mk.drewN _ _
  clear hw13
  have M13 := M12.trans m13
  have z13 := m13.size
  replace ow0 := ow0.mk m13 (by omega) (.inr (.inr (Nat.le_refl _)))
  replace og0 := og0.mk m13 (by omega) (.inr (.inr (Nat.le_refl _)))
  replace oh0 := oh0.mk m13 (by omega) (.inr (.inr (Nat.le_refl _)))
  go_wp2_with fail
  refine (heldInt _ _ _ _ _ _ (hasR_int.1 og0.has) hbw0 (by omega) (by omega)).mono ?_
  rintro e w' ⟨rfl, rfl⟩
  go_wp2_with fail
  go_ret
  exact ⟨rfl, M13.below0⟩

set_option maxRecDepth 100000 in
theorem lifted (os : Os) (started : os.Started) (H : Type) (enc : TypeId × Value → H) :
    ReturnsInHanded {} Try.checked os 10 .any (Rows.fnExactReservationIDsSpec.pre6 enc Try.prog Try.f10 Rows.fnExactReservationIDsRow.domain false) (Rows.fnExactReservationIDsSpec.post enc Try.prog Try.f10 false true false false) := by
  refine returnsInHanded_of_change (C := Try.checked) own started (by kernel_rfl) Try.func10
    (ChangeSpec.witness6 (enc := enc) (C := Try.checked) false ⟨#[], #[.slice none 0 0], []⟩ 8 (by kernel_rfl) (by kernel_rfl) (by kernel_rfl) (by kernel_rfl)) ?_
  intro W base args ds gs before hval0 hW hcnd _
  have hval : ∀ (j : Nat) t v, Try.f10.params[j]? = some t → args[j]? = some v → Value.okWide Try.prog W .any base t v := hval0
  have hW' := hW
  obtain ⟨p, q, hA0, hV, rfl, hfz, hnd⟩ := hW
  have hA : DataW.TrodAll enc Try.prog W 0 (fun _ => true) true Try.f10.params.toList args.toList ds p := hA0
  rw [Try.params10] at hA hval
  obtain ⟨v0, vs0, d0, ds0, p0, q0, hargs, rfl, rfl, h0, r0⟩ := trodAll_cons hA
  obtain ⟨rfl, rfl, rfl⟩ := trodAll_nil r0
  obtain rfl : args = #[v0] := by cases args; simp_all
  obtain ⟨rfl, rfl⟩ := trodVars_none hV
  have k0 := h0
  have lt0 : ∀ x ∈ p0, x.block < W.heap.size := by obtain ⟨m, hm⟩ := k0; exact DataW.trod_lt m _ _ _ hm
  obtain ⟨b0, l0, g0, rfl⟩ := okWide_slice Try.underlying51 (hval 0 51 v0 rfl rfl)
  obtain ⟨fu0, hfu0⟩ := h0
  rw [show (Value.slice b0 l0 g0).cells.toList = [.slice b0 l0 g0] from rfl] at hfu0
  obtain ⟨a0, n0, c0, z0, hv0, m0, h0, f0⟩ := openReservationS hfu0
  injection hv0 with e1 e2 e3
  subst e1 e2 e3
  clear hA0 hval0
  refine (walk b0 l0 g0 z0 W h0 m0 f0).mono fun e W' ⟨he, bel⟩ => ?_
  subst he
  exact ⟨_, rfl, _, _, _, [], _, [], hW', trodAll_mk1 (shut_bool Try.underlying4 _), (trodAll_cons_mk (Below.trod laidOut (by kernel_rfl) (of_decide_eq_true (by kernel_rfl)) k0 bel lt0) trodAll_mk0), rfl, bel.frame _, fun h => by cases h⟩

theorem over : Rows.fnExactReservationIDsRow.holds Try.pinned (OpenSpec.ofChange Rows.fnExactReservationIDsSpec) :=
  OpenClaim.holds_of_wide 10 Try.f10 rfl rfl rfl rfl rfl rfl rfl ⟨rfl, rfl, rfl, rfl, rfl⟩ rfl rfl rfl rfl rfl (by kernel_rfl) Try.func10 (by kernel_rfl)
    (of_decide_eq_true (by kernel_rfl)) (by unfold Func.isWrapper; first | (rw [if_pos (by decide +kernel)]; kernel_rfl) | (rw [if_neg (by decide +kernel)]; exact ⟨rfl, rfl⟩))
    (fun os started H enc _ => lifted os started H enc)

theorem proved : Rows.FnExactReservationIDsSaid := over
#print axioms proved
end Go.Proofs.Ytdbaecgbhadkbaa.fnExactReservationIDs
