/- For every two slices of integers, the law on EqualInts returns true and leaves its arguments alone; no further condition. -/
import Derived.Test.YtoikcfakailegaaRows
import Derived.WalkKit
import Derived.ProofKit
import Derived.OpenShut
import Derived.ShutString
import Derived.ChangeOld
import Derived.Below
import Derived.Test.YtoikcfakailegaaSameInt
namespace Go.Proofs.Ytoikcfakailegaa.fnExactEqualInts
open Go.ChangeShapes Go.WideShapes Go.ChangeAt Go.RowKit
open Go.ChangeMaps (open_string shut_string)
set_option linter.unusedVariables false

theorem own : ownKnob Try.prog.godebug = none := by kernel_rfl
theorem laidOut : laidOutB Try.prog = true := by kernel_rfl

theorem walk (a0 : Option Addr) (len0 cap0 : Nat) (z0 : List Int) (a1 : Option Addr) (len1 cap1 : Nat) (z1 : List Int) (w : World) (w0 : IsRow .i64 w a0 len0 cap0 z0) (w1 : IsRow .i64 w a1 len1 cap1 z1) :
    Calls Try.prog 13 #[.slice a0 len0 cap0, .slice a1 len1 cap1] w fun e w' => e = .returned (.bool true) ∧ Below w.heap.size w w' := by
  by_cases hbig0 : 1048576 < len0
  · have hb0 : (1048576 : Int) < (len0 : Int) := by omega
    go_enter Try.func13, Try.ntmps13
    go_wp2
    go_ret
    exact ⟨rfl, Below.refl _ _⟩
  have hn0 : len0 ≤ 1048576 := by omega
  have hp0 : (len0 : Int) ≤ 1048576 := by omega
  clear hbig0
  by_cases hbig1 : 1048576 < len1
  · have hb1 : (1048576 : Int) < (len1 : Int) := by omega
    go_enter Try.func13, Try.ntmps13
    go_wp2
    go_ret
    exact ⟨rfl, Below.refl _ _⟩
  have hn1 : len1 ≤ 1048576 := by omega
  have hp1 : (len1 : Int) ≤ 1048576 := by omega
  clear hbig1
  have h0 := w0.has
  have hF0 := Lib.hid w0.fits
  clear w0
  have h1 := w1.has
  have hF1 := Lib.hid w1.fits
  clear w1
  go_enter Try.func13, Try.ntmps13
  go_wp2_with fail
  refine (toInt _ _ _ _ _ h0 hn0).mono ?_
  rintro e w1 ⟨rfl, o1, b1⟩
  have f2 := h0.next b1
  clear h0
  have f3 := h1.next b1
  clear h1
  have B4 := b1
  go_wp2_with fail
  refine (toInt _ _ _ _ _ f3 hn1).mono ?_
  rintro e w5 ⟨rfl, o5, b5⟩
  have f6 := f2.next b5
  clear f2
  have f7 := f3.next b5
  clear f3
  have f8 := o1.below b5
  clear o1
  have B9 := Below.seq B4 b5
  go_wp2_with fail
  refine (specEqualInts _ _ _ _ _ _ _ _ _ _ _ f8.has o5.has (by omega) (by omega)).mono ?_
  rintro e w' ⟨rfl, m10, rfl⟩
  have f11 := f6.drewN m10
  clear f6
  have f12 := f7.drewN m10
  clear f7
  have f13 := f8.drewN m10
  clear f8
  have f14 := o5.drewN m10
  clear o5
  have B15 := Below.drewN' B9 m10
  go_wp2_with fail
  refine (toInt _ _ _ _ _ f11 hn0).mono ?_
  rintro e w16 ⟨rfl, o16, b16⟩
  have f17 := f11.next b16
  clear f11
  have f18 := f12.next b16
  clear f12
  have B19 := Below.seq B15 b16
  go_wp2_with fail
  refine (toInt _ _ _ _ _ f18 hn1).mono ?_
  rintro e w20 ⟨rfl, o20, b20⟩
  have f21 := f17.next b20
  clear f17
  have f22 := f18.next b20
  clear f18
  have f23 := o16.below b20
  clear o16
  have B24 := Below.seq B19 b20
  go_wp2_with fail
  refine (implEqualInts _ _ _ _ _ _ _ _ _ _ _ f23.has o20.has (by omega) (by omega)).mono ?_
  rintro e w' ⟨rfl, m25, rfl⟩
  have f26 := f21.drewN m25
  clear f21
  have f27 := f22.drewN m25
  clear f22
  have f28 := f23.drewN m25
  clear f23
  have f29 := o20.drewN m25
  clear o20
  have B30 := Below.drewN' B24 m25
  go_wp2_with fail
  refine (toInt _ _ _ _ _ f26 hn0).mono ?_
  rintro e w31 ⟨rfl, o31, b31⟩
  have f32 := f26.next b31
  clear f26
  have f33 := f27.next b31
  clear f27
  have f34 := f28.below b31
  clear f28
  have f35 := f29.below b31
  clear f29
  have B36 := Below.seq B30 b31
  go_wp2_with fail
  refine (eqInt _ _ _ _ _ _ _ _ _ f34.has o31.has (by omega)).mono ?_
  rintro e w' ⟨rfl, m37, rfl⟩
  have f38 := f32.drewN m37
  clear f32
  have f39 := f33.drewN m37
  clear f33
  have f40 := f34.drewN m37
  clear f34
  have f41 := f35.drewN m37
  clear f35
  have f42 := o31.drewN m37
  clear o31
  have B43 := Below.drewN' B36 m37
  go_wp2_with fail
  refine (toInt _ _ _ _ _ f39 hn1).mono ?_
  rintro e w44 ⟨rfl, o44, b44⟩
  have f45 := f38.next b44
  clear f38
  have f46 := f39.next b44
  clear f39
  have f47 := f40.below b44
  clear f40
  have f48 := f41.below b44
  clear f41
  have B49 := Below.seq B43 b44
  go_wp2_with fail
  refine (eqInt _ _ _ _ _ _ _ _ _ f48.has o44.has (by omega)).mono ?_
  rintro e w' ⟨rfl, m50, rfl⟩
  have f51 := f45.drewN m50
  clear f45
  have f52 := f46.drewN m50
  clear f46
  have f53 := f47.drewN m50
  clear f47
  have f54 := f48.drewN m50
  clear f48
  have f55 := o44.drewN m50
  clear o44
  have B56 := Below.drewN' B49 m50
  go_wp2_with fail
  go_ret
  exact ⟨rfl, B56⟩

set_option maxRecDepth 100000 in
theorem lifted (os : Os) (started : os.Started) (H : Type) (enc : TypeId × Value → H) :
    ReturnsInHanded {} Try.checked os 13 .any (Rows.fnExactEqualIntsSpec.pre6 enc Try.prog Try.f13 Rows.fnExactEqualIntsRow.domain false) (Rows.fnExactEqualIntsSpec.post enc Try.prog Try.f13 false true false false) := by
  refine returnsInHanded_of_change (C := Try.checked) own started (by kernel_rfl) Try.func13
    (ChangeSpec.witness6 (enc := enc) (C := Try.checked) false ⟨#[], #[.slice none 0 0, .slice none 0 0], []⟩ 8 (by kernel_rfl) (by kernel_rfl) (by kernel_rfl) (by kernel_rfl)) ?_
  intro W base args ds gs before hval0 hW hcnd _
  have hval : ∀ (j : Nat) t v, Try.f13.params[j]? = some t → args[j]? = some v → Value.okWide Try.prog W .any base t v := hval0
  have hW' := hW
  obtain ⟨p, q, hA0, hV, rfl, hfz, hnd⟩ := hW
  have hA : DataW.TrodAll enc Try.prog W 0 (fun _ => true) true Try.f13.params.toList args.toList ds p := hA0
  rw [Try.params13] at hA hval
  obtain ⟨v0, vs0, d0, ds0, p0, q0, hargs, rfl, rfl, h0, r0⟩ := trodAll_cons hA
  obtain ⟨v1, vs1, d1, ds1, p1, q1, rfl, rfl, rfl, h1, r1⟩ := trodAll_cons r0
  obtain ⟨rfl, rfl, rfl⟩ := trodAll_nil r1
  obtain rfl : args = #[v0, v1] := by cases args; simp_all
  obtain ⟨rfl, rfl⟩ := trodVars_none hV
  obtain ⟨a0, len0, cap0, rfl⟩ := okWide_slice Try.underlying27 (hval 0 27 v0 rfl rfl)
  have k0 := h0
  have lt0 : ∀ x ∈ p0, x.block < W.heap.size := by obtain ⟨m, hm⟩ := k0; exact DataW.trod_lt m _ _ _ hm
  obtain ⟨z0, w0⟩ : ∃ zs, IsRow .i64 W a0 len0 cap0 zs := by
    obtain ⟨fuel, hf⟩ := h0
    rcases open_ints Try.underlying27 Try.underlying3 (by kernel_rfl) hf with ⟨hcs, _⟩ | ⟨x, l, c, zs, hcs, _, hl, hm, hz, _, hcell, hwz⟩
    · simp [Value.cells] at hcs
      obtain ⟨rfl, rfl, rfl⟩ := hcs
      exact ⟨[], .inl ⟨rfl, rfl, rfl, rfl⟩⟩
    · simp [Value.cells] at hcs
      obtain ⟨rfl, rfl, rfl⟩ := hcs
      exact ⟨zs, .inr ⟨_, rfl, hl, hm, by simpa using hz, hcell, hwz⟩⟩
  obtain ⟨a1, len1, cap1, rfl⟩ := okWide_slice Try.underlying27 (hval 1 27 v1 rfl rfl)
  have k1 := h1
  have lt1 : ∀ x ∈ p1, x.block < W.heap.size := by obtain ⟨m, hm⟩ := k1; exact DataW.trod_lt m _ _ _ hm
  obtain ⟨z1, w1⟩ : ∃ zs, IsRow .i64 W a1 len1 cap1 zs := by
    obtain ⟨fuel, hf⟩ := h1
    rcases open_ints Try.underlying27 Try.underlying3 (by kernel_rfl) hf with ⟨hcs, _⟩ | ⟨x, l, c, zs, hcs, _, hl, hm, hz, _, hcell, hwz⟩
    · simp [Value.cells] at hcs
      obtain ⟨rfl, rfl, rfl⟩ := hcs
      exact ⟨[], .inl ⟨rfl, rfl, rfl, rfl⟩⟩
    · simp [Value.cells] at hcs
      obtain ⟨rfl, rfl, rfl⟩ := hcs
      exact ⟨zs, .inr ⟨_, rfl, hl, hm, by simpa using hz, hcell, hwz⟩⟩
  clear hA0 hval0
  refine (walk a0 len0 cap0 z0 a1 len1 cap1 z1 W w0 w1).mono fun e W' ⟨he, bel⟩ => ?_
  subst he
  exact ⟨_, rfl, _, _, _, [], _, [], hW', trodAll_mk1 (shut_bool Try.underlying4 _), (trodAll_cons_mk (Below.trod laidOut (by kernel_rfl) (of_decide_eq_true (by kernel_rfl)) k0 bel lt0) (trodAll_cons_mk (Below.trod laidOut (by kernel_rfl) (of_decide_eq_true (by kernel_rfl)) k1 bel lt1) trodAll_mk0)), rfl, bel.frame _, fun h => by cases h⟩

theorem over : Rows.fnExactEqualIntsRow.holds Try.pinned (OpenSpec.ofChange Rows.fnExactEqualIntsSpec) :=
  OpenClaim.holds_of_wide 13 Try.f13 rfl rfl rfl rfl rfl rfl rfl ⟨rfl, rfl, rfl, rfl, rfl⟩ rfl rfl rfl rfl rfl (by kernel_rfl) Try.func13 (by kernel_rfl)
    (of_decide_eq_true (by kernel_rfl)) (by unfold Func.isWrapper; first | (rw [if_pos (by decide +kernel)]; kernel_rfl) | (rw [if_neg (by decide +kernel)]; exact ⟨rfl, rfl⟩))
    (fun os started H enc _ => lifted os started H enc)

theorem proved : Rows.FnExactEqualIntsSaid := over
#print axioms proved
end Go.Proofs.Ytoikcfakailegaa.fnExactEqualInts
