/- For every integer, the law on Elements returns true; no further condition. -/
import Derived.Test.YtfigmjeghdgdjaaRows
import Derived.WalkKit
import Derived.ProofKit
import Derived.OpenShut
import Derived.ShutString
import Derived.ChangeOld
import Derived.Below
import Derived.Test.YtfigmjeghdgdjaaElSpec
import Derived.Test.YtfigmjeghdgdjaaIntMark
namespace Go.Proofs.Ytfigmjeghdgdjaa.fnExactElements
open Go.ChangeShapes Go.WideShapes Go.ChangeAt Go.RowKit
open Go.ChangeMaps (open_string shut_string)
set_option linter.unusedVariables false

theorem own : ownKnob Try.prog.godebug = none := by kernel_rfl
theorem laidOut : laidOutB Try.prog = true := by kernel_rfl

set_option maxRecDepth 100000 in
set_option maxHeartbeats 4000000 in
theorem walk (a0 : Int) (w : World) (w0 : (Lit.int .i64 a0).wf = true) :
    Calls Try.prog 11 #[.int .i64 a0] w fun e w' => e = .returned (.bool true) ∧ Below w.heap.size w w' := by
  obtain ⟨il0, ir0⟩ := i64_of w0
  have hw0 := w0
  go_enter Try.func11, Try.ntmps11
  go_wp2_with fail
  refine (specElements _ _).mono ?_
  rintro e w1 ⟨A1, N1, c1, rfl, hc1, o1, b1⟩
  have hb1 : N1 ≤ 1073741824 := by have h1 := o1.1; have h2 := elN_len a0 16; omega
  have hC1 := Lib.hid hc1
  clear hc1
  have lo2 := Nat.le_refl w.heap.size
  have B3 := b1
  go_wp2_with fail
  refine (implElements _ _).mono ?_
  rintro e w4 ⟨A4, N4, c4, rfl, hc4, o4, b4⟩
  obtain rfl : N1 = N4 := o1.1.symm.trans o4.1
  have hC4 := Lib.hid hc4
  clear hc4
  have dj5 := dj_of o1.has o4 (Nat.le_refl _)
  have lo6 := B3.size
  have f7 := o1.below b4
  clear o1
  have B8 := Below.seq B3 b4
  go_wp2_with fail
  refine (eqInt _ _ _ _ _ _ _ _ _ o4.has f7.has hb1).mono ?_
  rintro e w' ⟨rfl, m9, rfl⟩
  have f10 := f7.drewN m9
  clear f7
  have f11 := o4.drewN m9
  clear o4
  have B12 := Below.drewN' B8 m9
  go_wp2_with fail
  refine (markInt _ _ _ _ _ _ _ f11 hb1 (by omega) (by omega)).mono ?_
  rintro e w13 ⟨rfl, o13, g13⟩
  have B14 := Below.far B12 f11 lo6 B12.size g13
  have f15 := f10.far g13 dj5
  clear f10
  clear f11
  go_wp2_with fail
  refine (heldInt _ _ _ _ _ _ o13.has hb1 (by omega) (by omega)).mono ?_
  rintro e w' ⟨rfl, rfl⟩
  go_wp2_with fail
  refine (implElements _ _).mono ?_
  rintro e w16 ⟨A16, N16, c16, rfl, hc16, o16, b16⟩
  obtain rfl : N1 = N16 := f15.1.symm.trans o16.1
  have hC16 := Lib.hid hc16
  clear hc16
  have dj17 := dj_of f15.has o16 (Nat.le_refl _)
  have dj18 := dj_of o13.has o16 (Nat.le_refl _)
  have lo19 := B14.size
  have f20 := f15.below b16
  clear f15
  have f21 := o13.below b16
  clear o13
  have B22 := Below.seq B14 b16
  go_wp2_with fail
  refine (eqInt _ _ _ _ _ _ _ _ _ o16.has f20.has hb1).mono ?_
  rintro e w' ⟨rfl, m23, rfl⟩
  have f24 := f20.drewN m23
  clear f20
  have f25 := f21.drewN m23
  clear f21
  have f26 := o16.drewN m23
  clear o16
  have B27 := Below.drewN' B22 m23
  go_wp2_with fail
  refine (heldInt _ _ _ _ _ _ f25.has hb1 (by omega) (by omega)).mono ?_
  rintro e w' ⟨rfl, rfl⟩
  go_wp2_with fail
  go_ret
  exact ⟨rfl, B27⟩

set_option maxRecDepth 100000 in
theorem lifted (os : Os) (started : os.Started) (H : Type) (enc : TypeId × Value → H) :
    ReturnsInHanded {} Try.checked os 11 .any (Rows.fnExactElementsSpec.pre6 enc Try.prog Try.f11 Rows.fnExactElementsRow.domain false) (Rows.fnExactElementsSpec.post enc Try.prog Try.f11 false true false false) := by
  refine returnsInHanded_of_change (C := Try.checked) own started (by kernel_rfl) Try.func11
    (ChangeSpec.witness6 (enc := enc) (C := Try.checked) false ⟨#[], #[.int .i64 0], []⟩ 8 (by kernel_rfl) (by kernel_rfl) (by kernel_rfl) (by kernel_rfl)) ?_
  intro W base args ds gs before hval0 hW hcnd _
  have hval : ∀ (j : Nat) t v, Try.f11.params[j]? = some t → args[j]? = some v → Value.okWide Try.prog W .any base t v := hval0
  have hW' := hW
  obtain ⟨p, q, hA0, hV, rfl, hfz, hnd⟩ := hW
  have hA : DataW.TrodAll enc Try.prog W 0 (fun _ => true) true Try.f11.params.toList args.toList ds p := hA0
  rw [Try.params11] at hA hval
  obtain ⟨v0, vs0, d0, ds0, p0, q0, hargs, rfl, rfl, h0, r0⟩ := trodAll_cons hA
  obtain ⟨rfl, rfl, rfl⟩ := trodAll_nil r0
  obtain rfl : args = #[v0] := by cases args; simp_all
  obtain ⟨rfl, rfl⟩ := trodVars_none hV
  obtain ⟨a0, rfl, rfl, rfl, w0⟩ := open_int Try.underlying3 (hval 0 3 v0 rfl rfl) h0
  clear hA0 hval0
  refine (walk a0 W w0).mono fun e W' ⟨he, bel⟩ => ?_
  subst he
  exact ⟨_, rfl, _, _, _, [], _, [], hW', trodAll_mk1 (shut_bool Try.underlying4 _), (trodAll_cons_mk (shut_int Try.underlying3 w0) trodAll_mk0), rfl, bel.frame _, fun h => by cases h⟩

theorem over : Rows.fnExactElementsRow.holds Try.pinned (OpenSpec.ofChange Rows.fnExactElementsSpec) :=
  OpenClaim.holds_of_wide 11 Try.f11 rfl rfl rfl rfl rfl rfl rfl ⟨rfl, rfl, rfl, rfl, rfl⟩ rfl rfl rfl rfl rfl (by kernel_rfl) Try.func11 (by kernel_rfl)
    (of_decide_eq_true (by kernel_rfl)) (by unfold Func.isWrapper; first | (rw [if_pos (by decide +kernel)]; kernel_rfl) | (rw [if_neg (by decide +kernel)]; exact ⟨rfl, rfl⟩))
    (fun os started H enc _ => lifted os started H enc)

theorem proved : Rows.FnExactElementsSaid := over
#print axioms proved
end Go.Proofs.Ytfigmjeghdgdjaa.fnExactElements
