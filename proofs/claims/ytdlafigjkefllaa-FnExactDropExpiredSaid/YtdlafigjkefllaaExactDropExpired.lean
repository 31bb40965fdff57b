
/- For every list of beacons and every time, the law on DropExpired returns true; no further condition. -/
import Derived.Test.YtdlafigjkefllaaRows
import Derived.WalkKit
import Derived.ProofKit
import Derived.OpenShut
import Derived.ShutString
import Derived.ChangeOld
import Derived.Below
import Derived.Test.YtdlafigjkefllaaOBeacon
import Derived.Test.YtdlafigjkefllaaDropS
import Derived.Test.YtdlafigjkefllaaKNBeacon
import Derived.Test.YtdlafigjkefllaaWBeacon
namespace Go.Proofs.Ytdlafigjkefllaa.fnExactDropExpired
open Go.ChangeShapes Go.WideShapes Go.ChangeAt Go.RowKit
open Go.ChangeMaps (open_string shut_string)
set_option linter.unusedVariables false

theorem own : ownKnob Try.prog.godebug = none := by kernel_rfl
theorem laidOut : laidOutB Try.prog = true := by kernel_rfl

theorem totBeacon_szS (zs : List TBeacon) (n : Nat) : sumTo totBeacon zs n ≤ 5 * szBeacon zs n := by
  have h : ∀ k, sumTo totBeacon zs k ≤ 3 * k + 5 * sumTo seBeacon zs k := by
    intro k
    induction k with
    | zero => simp [sumTo]
    | succ k ih => rw [sumTo, sumTo, show totBeacon (zs.getD k default) = 3 + 5 * seBeacon (zs.getD k default) from rfl]; omega
  have := h n
  unfold szBeacon
  omega
theorem drop_sz {p : TBeacon → Bool} {zs : List TBeacon} {n N : Nat} (hN : (filtUp p zs n).length = N) (h : szBeacon zs n ≤ 1048576) : szBeacon (filtUp p zs n) N ≤ 1048576 := by
  subst hN
  exact Nat.le_trans (filtUp_szB p zs n) h

set_option maxRecDepth 100000 in
set_option maxHeartbeats 4000000 in
theorem walk (a0_ : Option Addr) (n0_ c0_ : Nat) (z0_ : List TBeacon) (a1 : Int) (w : World) (h0_ : HasBeacon w w.heap.size a0_ n0_ z0_) (m0_ : n0_ ≤ 9223372036854775807) (f0_ : ∀ x ∈ z0_, TBeacon.fits x) (w1 : (Lit.int .i64 a1).wf = true) :
    Calls Try.prog 3 #[.slice a0_ n0_ c0_, .int .i64 a1] w fun e w' => e = .returned (.bool true) ∧ Below w.heap.size w w' := by
  by_cases hbig0 : (1048576 : Int) < ((szBeacon z0_ n0_ : Nat) : Int)
  · go_enter Try.func3, Try.ntmps3
    go_wp2_with fail
    have M0 : Mk0 w w := Mk.refl 0 0 w
    refine (szBeaconSB _ _ _ w.heap.size z0_ _ _ (h0_.mk M0 (Nat.le_refl _) (.inr (Nat.le_refl _))) M0.size (by omega) (by omega) (by omega) m0_).mono ?_
    rintro e w1 ⟨rfl, m1⟩
    go_wp2_with fail
    go_ret
    exact ⟨rfl, (M0.trans m1).below0⟩
  have hn0 : ((szBeacon z0_ n0_ : Nat) : Int) ≤ (1048576 : Int) := by omega
  clear hbig0
  go_enter Try.func3, Try.ntmps3
  go_wp2_with fail
  have M0 : Mk0 w w := Mk.refl 0 0 w
  refine (szBeaconSC _ _ _ w.heap.size z0_ _ _ (h0_.mk M0 (Nat.le_refl _) (.inr (Nat.le_refl _))) M0.size (by omega) (by omega) (by omega)).mono ?_
  rintro e w1 ⟨l1, hl1, rfl, m1⟩
  have M1 := M0.trans m1
  have z1 := m1.size
  go_wp2_with fail
  refine (toBeaconS _ _ _ w.heap.size _ _ (h0_.mk M1 (Nat.le_refl _) (.inr (Nat.le_refl _))) (by omega) (by omega)).mono ?_
  rintro e w2 ⟨b1, rfl, o2, m2⟩
  have M2 := M1.trans m2
  have z2 := m2.size
  have h3 := o2.has.mono (B' := w2.heap.size) (by omega)
  clear o2
  go_wp2_with fail
  have hN0_ : szBeacon z0_ n0_ ≤ 1048576 := by omega
  refine (specDrop _ _ _ _ z0_ a1 _ h3 (by omega) hN0_).mono ?_
  rintro e w3 ⟨A3, N3, C3, rfl, hc3, ow0, m3⟩
  clear hc3
  have hbw0 : szBeacon (filtUp (fresh a1) z0_ n0_) N3 ≤ 1048576 := drop_sz ow0.1 hN0_
  have hbw0n : N3 ≤ 1048576 := Nat.le_trans (szBeacon_n _ _) hbw0
  have hbw0t : sumTo totBeacon (filtUp (fresh a1) z0_ n0_) N3 ≤ 10485760 := by have := totBeacon_szS (filtUp (fresh a1) z0_ n0_) N3; omega
  have M3 := M2.trans m3
  have z3 := m3.size
  replace h3 := h3.mk m3 (by omega) (.inr (Nat.le_refl _))
  go_wp2_with fail
  refine (toBeaconS _ _ _ w.heap.size _ _ (h0_.mk M3 (Nat.le_refl _) (.inr (Nat.le_refl _))) (by omega) (by omega)).mono ?_
  rintro e w4 ⟨b4, rfl, o5, m4⟩
  have M4 := M3.trans m4
  have z4 := m4.size
  replace ow0 := ow0.mk m4 (by omega) (.inr (.inr (Nat.le_refl _)))
  have h6 := o5.has.mono (B' := w4.heap.size) (by omega)
  go_wp2_with fail
  refine (implDrop _ _ _ _ z0_ a1 _ h6 (by omega) hN0_).mono ?_
  rintro e w5 ⟨A5, N5, C5, rfl, hc5, og0, m5⟩
  clear hc5
  obtain rfl : N3 = N5 := ow0.1.symm.trans og0.1
  have M5 := M4.trans m5
  have z5 := m5.size
  replace h6 := h6.mk m5 (by omega) (.inr (Nat.le_refl _))
  replace o5 := o5.mk m5 (by omega) (.inr (.inr (Nat.le_refl _)))
  replace ow0 := ow0.mk m5 (by omega) (.inr (.inr (Nat.le_refl _)))
  go_wp2_with fail
  refine (eqBeaconS _ _ _ _ _ _ _ _ _ og0.hasBeacon ow0.hasBeacon (by omega) (by omega) hbw0).mono ?_
  rintro e w6 ⟨rfl, m6⟩
  have M6 := M5.trans m6
  have z6 := m6.size
  replace h6 := h6.mk m6 (by omega) (.inr (Nat.le_refl _))
  replace o5 := o5.mk m6 (by omega) (.inr (.inr (Nat.le_refl _)))
  replace ow0 := ow0.mk m6 (by omega) (.inr (.inr (Nat.le_refl _)))
  replace og0 := og0.mk m6 (by omega) (.inr (.inr (Nat.le_refl _)))
  go_wp2_with fail
  refine (toBeaconS _ _ _ w.heap.size _ _ (h0_.mk M6 (Nat.le_refl _) (.inr (Nat.le_refl _))) (by omega) (by omega)).mono ?_
  rintro e w7 ⟨b7, rfl, o8, m7⟩
  have M7 := M6.trans m7
  have z7 := m7.size
  replace h6 := h6.mk m7 (by omega) (.inr (Nat.le_refl _))
  replace o5 := o5.mk m7 (by omega) (.inr (.inr (Nat.le_refl _)))
  replace ow0 := ow0.mk m7 (by omega) (.inr (.inr (Nat.le_refl _)))
  replace og0 := og0.mk m7 (by omega) (.inr (.inr (Nat.le_refl _)))
  have h9 := o8.has.mono (B' := w7.heap.size) (by omega)
  clear o8
  go_wp2_with fail
  refine (eqBeaconS _ _ _ _ _ _ _ _ _ h6 h9 (by omega) (by omega) (by omega)).mono ?_
  rintro e w8 ⟨rfl, m8⟩
  have M8 := M7.trans m8
  have z8 := m8.size
  replace h6 := h6.mk m8 (by omega) (.inr (Nat.le_refl _))
  replace h9 := h9.mk m8 (by omega) (.inr (Nat.le_refl _))
  replace o5 := o5.mk m8 (by omega) (.inr (.inr (Nat.le_refl _)))
  replace ow0 := ow0.mk m8 (by omega) (.inr (.inr (Nat.le_refl _)))
  replace og0 := og0.mk m8 (by omega) (.inr (.inr (Nat.le_refl _)))
  go_wp2_with fail
  clear hN0_
  refine (markBeaconSN _ _ _ w3.heap.size w4.heap.size _ _ _ o5 (by omega) (by omega) (by omega) (by omega)).mono ?_
  rintro e w9 ⟨rfl, m9⟩
  have M9 := M8.andR m9 (.inl (by omega))
  have z9 := m9.size
  replace ow0 := ow0.mk m9 (by omega) (by omega)
  replace og0 := og0.mk m9 (by omega) (by omega)
  go_wp2_with fail
  refine (eqBeaconS _ _ _ _ _ _ _ _ _ og0.hasBeacon ow0.hasBeacon (by omega) (by omega) hbw0).mono ?_
  rintro e w10 ⟨rfl, m10⟩
  have M10 := M9.trans m10
  have z10 := m10.size
  replace ow0 := ow0.mk m10 (by omega) (.inr (.inr (Nat.le_refl _)))
  replace og0 := og0.mk m10 (by omega) (.inr (.inr (Nat.le_refl _)))
  go_wp2_with fail
  refine (markBeaconW _ _ _ w4.heap.size w5.heap.size _ _ _ og0 (by omega) hbw0t (by omega) (by omega) (by omega)).mono ?_
  rintro e w11 ⟨rfl, oo11, m11⟩
  replace og0 := oo11
  clear oo11
  have M11 := M10.andR m11 (.inl (by omega))
  have z11 := m11.size
  replace ow0 := ow0.mk m11 (by omega) (by omega)
  go_wp2_with fail
  refine (heldBeaconW _ _ _ _ _ (filtUp (fresh a1) z0_ n0_) _ og0.hasBeacon (by omega) hbw0t (by omega) (by omega)).mono ?_
  rintro e w' ⟨rfl, rfl⟩
  go_wp2_with fail
  refine (toBeaconS _ _ _ w.heap.size _ _ (h0_.mk M11 (Nat.le_refl _) (.inr (Nat.le_refl _))) (by omega) (by omega)).mono ?_
  rintro e w12 ⟨b10, rfl, o11, m12⟩
  have M12 := M11.trans m12
  have z12 := m12.size
  replace ow0 := ow0.mk m12 (by omega) (.inr (.inr (Nat.le_refl _)))
  replace og0 := og0.mk m12 (by omega) (.inr (.inr (Nat.le_refl _)))
  have h12 := o11.has.mono (B' := w12.heap.size) (by omega)
  clear o11
  go_wp2_with fail
  have hN0_ : szBeacon z0_ n0_ ≤ 1048576 := by omega
  refine (implDrop _ _ _ _ z0_ a1 _ h12 (by omega) hN0_).mono ?_
  rintro e w13 ⟨A13, N13, C13, rfl, hc13, oh0, m13⟩
  clear hc13
  obtain rfl : N3 = N13 := ow0.1.symm.trans oh0.1
  have M13 := M12.trans m13
  have z13 := m13.size
  replace h12 := h12.mk m13 (by omega) (.inr (Nat.le_refl _))
  replace ow0 := ow0.mk m13 (by omega) (.inr (.inr (Nat.le_refl _)))
  replace og0 := og0.mk m13 (by omega) (.inr (.inr (Nat.le_refl _)))
  go_wp2_with fail
  refine (eqBeaconS _ _ _ _ _ _ _ _ _ oh0.hasBeacon ow0.hasBeacon (by omega) (by omega) hbw0).mono ?_
  rintro e w14 ⟨rfl, m14⟩
  have M14 := M13.trans m14
  have z14 := m14.size
  replace ow0 := ow0.mk m14 (by omega) (.inr (.inr (Nat.le_refl _)))
  replace og0 := og0.mk m14 (by omega) (.inr (.inr (Nat.le_refl _)))
  replace oh0 := oh0.mk m14 (by omega) (.inr (.inr (Nat.le_refl _)))
  go_wp2_with fail
  refine (heldBeaconW _ _ _ _ _ (filtUp (fresh a1) z0_ n0_) _ og0.hasBeacon (by omega) hbw0t (by omega) (by omega)).mono ?_
  rintro e w' ⟨rfl, rfl⟩
  go_wp2_with fail
  go_ret
  exact ⟨rfl, M14.below0⟩

set_option maxRecDepth 100000 in
theorem lifted (os : Os) (started : os.Started) (H : Type) (enc : TypeId × Value → H) :
    ReturnsInHanded {} Try.checked os 3 .any (Rows.fnExactDropExpiredSpec.pre6 enc Try.prog Try.f3 Rows.fnExactDropExpiredRow.domain false) (Rows.fnExactDropExpiredSpec.post enc Try.prog Try.f3 false true false false) := by
  refine returnsInHanded_of_change (C := Try.checked) own started (by kernel_rfl) Try.func3
    (ChangeSpec.witness6 (enc := enc) (C := Try.checked) false ⟨#[], #[.slice none 0 0, .int .i64 0], []⟩ 8 (by kernel_rfl) (by kernel_rfl) (by kernel_rfl) (by kernel_rfl)) ?_
  intro W base args ds gs before hval0 hW hcnd _
  have hval : ∀ (j : Nat) t v, Try.f3.params[j]? = some t → args[j]? = some v → Value.okWide Try.prog W .any base t v := hval0
  have hW' := hW
  obtain ⟨p, q, hA0, hV, rfl, hfz, hnd⟩ := hW
  have hA : DataW.TrodAll enc Try.prog W 0 (fun _ => true) true Try.f3.params.toList args.toList ds p := hA0
  rw [Try.params3] at hA hval
  obtain ⟨v0, vs0, d0, ds0, p0, q0, hargs, rfl, rfl, h0, r0⟩ := trodAll_cons hA
  obtain ⟨v1, vs1, d1, ds1, p1, q1, rfl, rfl, rfl, h1, r1⟩ := trodAll_cons r0
  obtain ⟨rfl, rfl, rfl⟩ := trodAll_nil r1
  obtain rfl : args = #[v0, v1] := by cases args; simp_all
  obtain ⟨rfl, rfl⟩ := trodVars_none hV
  have k0 := h0
  have lt0 : ∀ x ∈ p0, x.block < W.heap.size := by obtain ⟨m, hm⟩ := k0; exact DataW.trod_lt m _ _ _ hm
  obtain ⟨b0, l0, g0, rfl⟩ := okWide_slice Try.underlying22 (hval 0 22 v0 rfl rfl)
  obtain ⟨fu0, hfu0⟩ := h0
  rw [show (Value.slice b0 l0 g0).cells.toList = [.slice b0 l0 g0] from rfl] at hfu0
  obtain ⟨a0, n0, c0, z0, hv0, m0, h0, f0⟩ := openBeaconS hfu0
  injection hv0 with e1 e2 e3
  subst e1 e2 e3
  obtain ⟨a1, rfl, rfl, rfl, w1⟩ := open_int Try.underlying3 (hval 1 3 v1 rfl rfl) h1
  clear hA0 hval0
  refine (walk b0 l0 g0 z0 a1 W h0 m0 f0 w1).mono fun e W' ⟨he, bel⟩ => ?_
  subst he
  exact ⟨_, rfl, _, _, _, [], _, [], hW', trodAll_mk1 (shut_bool Try.underlying4 _), (trodAll_cons_mk (Below.trod laidOut (by kernel_rfl) (of_decide_eq_true (by kernel_rfl)) k0 bel lt0) (trodAll_cons_mk (shut_int Try.underlying3 w1) trodAll_mk0)), rfl, bel.frame _, fun h => by cases h⟩

theorem over : Rows.fnExactDropExpiredRow.holds Try.pinned (OpenSpec.ofChange Rows.fnExactDropExpiredSpec) :=
  OpenClaim.holds_of_wide 3 Try.f3 rfl rfl rfl rfl rfl rfl rfl ⟨rfl, rfl, rfl, rfl, rfl⟩ rfl rfl rfl rfl rfl (by kernel_rfl) Try.func3 (by kernel_rfl)
    (of_decide_eq_true (by kernel_rfl)) (by unfold Func.isWrapper; first | (rw [if_pos (by decide +kernel)]; kernel_rfl) | (rw [if_neg (by decide +kernel)]; exact ⟨rfl, rfl⟩))
    (fun os started H enc _ => lifted os started H enc)

theorem proved : Rows.FnExactDropExpiredSaid := over
#print axioms proved
end Go.Proofs.Ytdlafigjkefllaa.fnExactDropExpired
