
/- For every list of beacons, the law on OriginASes returns true; no further condition. -/
import Derived.Test.YtpfjjfbheliinaaRows
import Derived.WalkKit
import Derived.ProofKit
import Derived.OpenShut
import Derived.ShutString
import Derived.ChangeOld
import Derived.Below
import Derived.Test.YtpfjjfbheliinaaOBeacon
import Derived.Test.YtpfjjfbheliinaaBcn
namespace Go.Proofs.Ytpfjjfbheliinaa.fnExactOriginASes
open Go.ChangeShapes Go.WideShapes Go.ChangeAt Go.RowKit
open Go.ChangeMaps (open_string shut_string)
set_option linter.unusedVariables false

theorem own : ownKnob Try.prog.godebug = none := by kernel_rfl
theorem laidOut : laidOutB Try.prog = true := by kernel_rfl

set_option maxRecDepth 100000 in
set_option maxHeartbeats 4000000 in
theorem walk (a0_ : Option Addr) (n0_ c0_ : Nat) (z0_ : List TBeacon) (w : World) (h0_ : HasBeacon w w.heap.size a0_ n0_ z0_) (m0_ : n0_ ≤ 9223372036854775807) (f0_ : ∀ x ∈ z0_, TBeacon.fits x) :
    Calls Try.prog 7 #[.slice a0_ n0_ c0_] w fun e w' => e = .returned (.bool true) ∧ Below w.heap.size w w' := by
  by_cases hbig0 : (1048576 : Int) < ((szBeacon z0_ n0_ : Nat) : Int)
  · go_enter Try.func7, Try.ntmps7
    go_wp2_with fail
    have M0 : Mk0 w w := Mk.refl 0 0 w
    refine (szBeaconSB _ _ _ w.heap.size z0_ _ _ (h0_.mk M0 (Nat.le_refl _) (.inr (Nat.le_refl _))) M0.size (by omega) (by omega) (by omega) m0_).mono ?_
    rintro e w1 ⟨rfl, m1⟩
    go_wp2_with fail
    go_ret
    exact ⟨rfl, (M0.trans m1).below0⟩
  have hn0 : ((szBeacon z0_ n0_ : Nat) : Int) ≤ (1048576 : Int) := by omega
  clear hbig0
  go_enter Try.func7, Try.ntmps7
  go_wp2_with fail
  have M0 : Mk0 w w := Mk.refl 0 0 w
  refine (szBeaconSC _ _ _ w.heap.size z0_ _ _ (h0_.mk M0 (Nat.le_refl _) (.inr (Nat.le_refl _))) M0.size (by omega) (by omega) (by omega)).mono ?_
  rintro e w1 ⟨l1, hl1, rfl, m1⟩
  have M1 := M0.trans m1
  have z1 := m1.size
  go_wp2_with fail
  refine (toBeaconS _ _ _ w.heap.size _ _ (h0_.mk M1 (Nat.le_refl _) (.inr (Nat.le_refl _))) (by omega) (by omega)).mono ?_
  rintro e w2 ⟨b1, rfl, o2, m2⟩
  have M2 := M1.trans m2
  have z2 := m2.size
  have h3 := o2.has.mono (B' := w2.heap.size) (by omega)
  clear o2
  go_wp2_with fail
  refine (specOAS _ _ _ _ z0_ _ h3 (by omega) (by omega)).mono ?_
  rintro e w3 ⟨rfl, m3⟩
  have M3 := M2.trans m3
  have z3 := m3.size
  replace h3 := h3.mk m3 (by omega) (.inr (Nat.le_refl _))
  go_wp2_with fail
  refine (toBeaconS _ _ _ w.heap.size _ _ (h0_.mk M3 (Nat.le_refl _) (.inr (Nat.le_refl _))) (by omega) (by omega)).mono ?_
  rintro e w4 ⟨b4, rfl, o5, m4⟩
  have M4 := M3.trans m4
  have z4 := m4.size
  have h6 := o5.has.mono (B' := w4.heap.size) (by omega)
  clear o5
  go_wp2_with fail
  refine (implOAS _ _ _ _ z0_ _ h6 (by omega) (by omega)).mono ?_
  rintro e w5 ⟨rfl, m5⟩
  have M5 := M4.trans m5
  have z5 := m5.size
  replace h6 := h6.mk m5 (by omega) (.inr (Nat.le_refl _))
  go_wp2_with fail
  refine (toBeaconS _ _ _ w.heap.size _ _ (h0_.mk M5 (Nat.le_refl _) (.inr (Nat.le_refl _))) (by omega) (by omega)).mono ?_
  rintro e w6 ⟨b7, rfl, o8, m6⟩
  have M6 := M5.trans m6
  have z6 := m6.size
  replace h6 := h6.mk m6 (by omega) (.inr (Nat.le_refl _))
  have h9 := o8.has.mono (B' := w6.heap.size) (by omega)
  clear o8
  go_wp2_with fail
  refine (eqBeaconS _ _ _ _ _ _ _ _ _ h6 h9 (by omega) (by omega) (by omega)).mono ?_
  rintro e w7 ⟨rfl, m7⟩
  have M7 := M6.trans m7
  have z7 := m7.size
  replace h6 := h6.mk m7 (by omega) (.inr (Nat.le_refl _))
  replace h9 := h9.mk m7 (by omega) (.inr (Nat.le_refl _))
  go_wp2_with fail
  go_ret
  exact ⟨rfl, M7.below0⟩

set_option maxRecDepth 100000 in
theorem lifted (os : Os) (started : os.Started) (H : Type) (enc : TypeId × Value → H) :
    ReturnsInHanded {} Try.checked os 7 .any (Rows.fnExactOriginASesSpec.pre6 enc Try.prog Try.f7 Rows.fnExactOriginASesRow.domain false) (Rows.fnExactOriginASesSpec.post enc Try.prog Try.f7 false true false false) := by
  refine returnsInHanded_of_change (C := Try.checked) own started (by kernel_rfl) Try.func7
    (ChangeSpec.witness6 (enc := enc) (C := Try.checked) false ⟨#[], #[.slice none 0 0], []⟩ 8 (by kernel_rfl) (by kernel_rfl) (by kernel_rfl) (by kernel_rfl)) ?_
  intro W base args ds gs before hval0 hW hcnd _
  have hval : ∀ (j : Nat) t v, Try.f7.params[j]? = some t → args[j]? = some v → Value.okWide Try.prog W .any base t v := hval0
  have hW' := hW
  obtain ⟨p, q, hA0, hV, rfl, hfz, hnd⟩ := hW
  have hA : DataW.TrodAll enc Try.prog W 0 (fun _ => true) true Try.f7.params.toList args.toList ds p := hA0
  rw [Try.params7] at hA hval
  obtain ⟨v0, vs0, d0, ds0, p0, q0, hargs, rfl, rfl, h0, r0⟩ := trodAll_cons hA
  obtain ⟨rfl, rfl, rfl⟩ := trodAll_nil r0
  obtain rfl : args = #[v0] := by cases args; simp_all
  obtain ⟨rfl, rfl⟩ := trodVars_none hV
  have k0 := h0
  have lt0 : ∀ x ∈ p0, x.block < W.heap.size := by obtain ⟨m, hm⟩ := k0; exact DataW.trod_lt m _ _ _ hm
  obtain ⟨b0, l0, g0, rfl⟩ := okWide_slice Try.underlying36 (hval 0 36 v0 rfl rfl)
  obtain ⟨fu0, hfu0⟩ := h0
  rw [show (Value.slice b0 l0 g0).cells.toList = [.slice b0 l0 g0] from rfl] at hfu0
  obtain ⟨a0, n0, c0, z0, hv0, m0, h0, f0⟩ := openBeaconS hfu0
  injection hv0 with e1 e2 e3
  subst e1 e2 e3
  clear hA0 hval0
  refine (walk b0 l0 g0 z0 W h0 m0 f0).mono fun e W' ⟨he, bel⟩ => ?_
  subst he
  exact ⟨_, rfl, _, _, _, [], _, [], hW', trodAll_mk1 (shut_bool Try.underlying4 _), (trodAll_cons_mk (Below.trod laidOut (by kernel_rfl) (of_decide_eq_true (by kernel_rfl)) k0 bel lt0) trodAll_mk0), rfl, bel.frame _, fun h => by cases h⟩

theorem over : Rows.fnExactOriginASesRow.holds Try.pinned (OpenSpec.ofChange Rows.fnExactOriginASesSpec) :=
  OpenClaim.holds_of_wide 7 Try.f7 rfl rfl rfl rfl rfl rfl rfl ⟨rfl, rfl, rfl, rfl, rfl⟩ rfl rfl rfl rfl rfl (by kernel_rfl) Try.func7 (by kernel_rfl)
    (of_decide_eq_true (by kernel_rfl)) (by unfold Func.isWrapper; first | (rw [if_pos (by decide +kernel)]; kernel_rfl) | (rw [if_neg (by decide +kernel)]; exact ⟨rfl, rfl⟩))
    (fun os started H enc _ => lifted os started H enc)

theorem proved : Rows.FnExactOriginASesSaid := over
#print axioms proved
end Go.Proofs.Ytpfjjfbheliinaa.fnExactOriginASes
