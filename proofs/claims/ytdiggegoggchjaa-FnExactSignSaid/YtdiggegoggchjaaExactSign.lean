
/- For every key and every slice of integers, the law on Sign returns true and leaves its arguments alone; no further condition. -/
import Derived.Test.YtdiggegoggchjaaRows
import Derived.WalkKit
import Derived.ProofKit
import Derived.OpenShut
import Derived.ShutString
import Derived.ChangeOld
import Derived.Below
import Derived.Test.YtdiggegoggchjaaSign
import Derived.Test.YtdiggegoggchjaaIntS
namespace Go.Proofs.Ytdiggegoggchjaa.fnExactSign
open Go.ChangeShapes Go.WideShapes Go.ChangeAt Go.RowKit
open Go.ChangeMaps (open_string shut_string)
set_option linter.unusedVariables false

theorem own : ownKnob Try.prog.godebug = none := by kernel_rfl
theorem laidOut : laidOutB Try.prog = true := by kernel_rfl

set_option maxRecDepth 100000 in
set_option maxHeartbeats 4000000 in
theorem walk (a0 : Int) (a1 : Option Addr) (len1 cap1 : Nat) (z1 : List Int) (w : World) (w0 : (Lit.int .i64 a0).wf = true) (w1 : IsRow .i64 w a1 len1 cap1 z1) :
    Calls Try.prog 3 #[.int .i64 a0, .slice a1 len1 cap1] w fun e w' => e = .returned (.bool true) ∧ Below w.heap.size w w' := by
  by_cases hbig1 : 1048576 < len1
  · have hb1 : (1048576 : Int) < (len1 : Int) := by omega
    go_enter Try.func3, Try.ntmps3
    go_wp2
    go_ret
    exact ⟨rfl, Below.refl _ _⟩
  have hn1 : len1 ≤ 1048576 := by omega
  have hp1 : (len1 : Int) ≤ 1048576 := by omega
  clear hbig1
  have h1 := w1.has
  have hF1 := Lib.hid w1.fits
  have hL1 := Lib.hid w1.has.1
  clear w1
  obtain ⟨il0, ir0⟩ := i64_of w0
  have hw0 := w0
  go_enter Try.func3, Try.ntmps3
  go_wp2_with fail
  refine (toInt _ _ _ _ _ (h1.mono (Nat.le_refl _)) hn1).mono ?_
  rintro e w1 ⟨rfl, o1, b1⟩
  have lo2 := Nat.le_refl w.heap.size
  have f3 := h1.below (b1.mono (Nat.le_refl _))
  clear h1
  have B4 := b1
  go_wp2_with fail
  refine (specSign _ _ _ _ _ _ hw0 o1.has (fun h => by cases h) hF1.out (by omega)).mono ?_
  rintro e w5 ⟨rfl, b5⟩
  have f6 := f3.below (b5.mono B4.size)
  clear f3
  have f7 := o1.below b5
  clear o1
  have B8 := Below.seq B4 b5
  go_wp2_with fail
  refine (toInt _ _ _ _ _ (f6.mono B8.size) hn1).mono ?_
  rintro e w9 ⟨rfl, o9, b9⟩
  have lo10 := B8.size
  have f11 := f6.below (b9.mono B8.size)
  clear f6
  have B12 := Below.seq B8 b9
  go_wp2_with fail
  refine (implSign _ _ _ _ _ _ hw0 o9.has (fun h => by cases h) hF1.out (by omega)).mono ?_
  rintro e w13 ⟨rfl, b13⟩
  have f14 := f11.below (b13.mono B12.size)
  clear f11
  have f15 := o9.below b13
  clear o9
  have B16 := Below.seq B12 b13
  go_wp2_with fail
  refine (toInt _ _ _ _ _ (f14.mono B16.size) hn1).mono ?_
  rintro e w17 ⟨rfl, o17, b17⟩
  have dj18 := dj_of f15.has o17 (Nat.le_refl _)
  have lo19 := B16.size
  have f20 := f14.below (b17.mono B16.size)
  clear f14
  have f21 := f15.below b17
  clear f15
  have B22 := Below.seq B16 b17
  go_wp2_with fail
  refine (eqInt _ _ _ _ _ _ _ _ _ f21.has o17.has (by omega)).mono ?_
  rintro e w' ⟨rfl, m23, rfl⟩
  have f24 := f20.drewB m23
  clear f20
  have f25 := f21.drewN m23
  clear f21
  have f26 := o17.drewN m23
  clear o17
  have B27 := Below.drewN' B22 m23
  go_wp2_with fail
  go_ret
  exact ⟨rfl, B27⟩

set_option maxRecDepth 100000 in
theorem lifted (os : Os) (started : os.Started) (H : Type) (enc : TypeId × Value → H) :
    ReturnsInHanded {} Try.checked os 3 .any (Rows.fnExactSignSpec.pre6 enc Try.prog Try.f3 Rows.fnExactSignRow.domain false) (Rows.fnExactSignSpec.post enc Try.prog Try.f3 false true false false) := by
  refine returnsInHanded_of_change (C := Try.checked) own started (by kernel_rfl) Try.func3
    (ChangeSpec.witness6 (enc := enc) (C := Try.checked) false ⟨#[], #[.int .i64 0, .slice none 0 0], []⟩ 8 (by kernel_rfl) (by kernel_rfl) (by kernel_rfl) (by kernel_rfl)) ?_
  intro W base args ds gs before hval0 hW hcnd _
  have hval : ∀ (j : Nat) t v, Try.f3.params[j]? = some t → args[j]? = some v → Value.okWide Try.prog W .any base t v := hval0
  have hW' := hW
  obtain ⟨p, q, hA0, hV, rfl, hfz, hnd⟩ := hW
  have hA : DataW.TrodAll enc Try.prog W 0 (fun _ => true) true Try.f3.params.toList args.toList ds p := hA0
  rw [Try.params3] at hA hval
  obtain ⟨v0, vs0, d0, ds0, p0, q0, hargs, rfl, rfl, h0, r0⟩ := trodAll_cons hA
  obtain ⟨v1, vs1, d1, ds1, p1, q1, rfl, rfl, rfl, h1, r1⟩ := trodAll_cons r0
  obtain ⟨rfl, rfl, rfl⟩ := trodAll_nil r1
  obtain rfl : args = #[v0, v1] := by cases args; simp_all
  obtain ⟨rfl, rfl⟩ := trodVars_none hV
  obtain ⟨a0, rfl, rfl, rfl, w0⟩ := open_int Try.underlying3 (hval 0 3 v0 rfl rfl) h0
  obtain ⟨a1, len1, cap1, rfl⟩ := okWide_slice Try.underlying22 (hval 1 22 v1 rfl rfl)
  have k1 := h1
  have lt1 : ∀ x ∈ p1, x.block < W.heap.size := by obtain ⟨m, hm⟩ := k1; exact DataW.trod_lt m _ _ _ hm
  obtain ⟨z1, w1⟩ : ∃ zs, IsRow .i64 W a1 len1 cap1 zs := by
    obtain ⟨fuel, hf⟩ := h1
    rcases open_ints Try.underlying22 Try.underlying3 (by kernel_rfl) hf with ⟨hcs, _⟩ | ⟨x, l, c, zs, hcs, _, hl, hm, hz, _, hcell, hwz⟩
    · simp [Value.cells] at hcs
      obtain ⟨rfl, rfl, rfl⟩ := hcs
      exact ⟨[], .inl ⟨rfl, rfl, rfl, rfl⟩⟩
    · simp [Value.cells] at hcs
      obtain ⟨rfl, rfl, rfl⟩ := hcs
      exact ⟨zs, .inr ⟨_, rfl, hl, hm, by simpa using hz, hcell, hwz⟩⟩
  clear hA0 hval0
  refine (walk a0 a1 len1 cap1 z1 W w0 w1).mono fun e W' ⟨he, bel⟩ => ?_
  subst he
  exact ⟨_, rfl, _, _, _, [], _, [], hW', trodAll_mk1 (shut_bool Try.underlying4 _), (trodAll_cons_mk (shut_int Try.underlying3 w0) (trodAll_cons_mk (Below.trod laidOut (by kernel_rfl) (of_decide_eq_true (by kernel_rfl)) k1 bel lt1) trodAll_mk0)), rfl, bel.frame _, fun h => by cases h⟩

theorem over : Rows.fnExactSignRow.holds Try.pinned (OpenSpec.ofChange Rows.fnExactSignSpec) :=
  OpenClaim.holds_of_wide 3 Try.f3 rfl rfl rfl rfl rfl rfl rfl ⟨rfl, rfl, rfl, rfl, rfl⟩ rfl rfl rfl rfl rfl (by kernel_rfl) Try.func3 (by kernel_rfl)
    (of_decide_eq_true (by kernel_rfl)) (by unfold Func.isWrapper; first | (rw [if_pos (by decide +kernel)]; kernel_rfl) | (rw [if_neg (by decide +kernel)]; exact ⟨rfl, rfl⟩))
    (fun os started H enc _ => lifted os started H enc)

theorem proved : Rows.FnExactSignSaid := over
#print axioms proved
end Go.Proofs.Ytdiggegoggchjaa.fnExactSign
