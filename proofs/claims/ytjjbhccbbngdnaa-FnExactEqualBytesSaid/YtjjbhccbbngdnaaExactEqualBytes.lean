/- For every two byte slices, the law on EqualBytes returns true and leaves its arguments alone; no further condition. -/
import Derived.Test.YtjjbhccbbngdnaaRows
import Derived.WalkKit
import Derived.ProofKit
import Derived.OpenShut
import Derived.ShutString
import Derived.ChangeOld
import Derived.Below
import Derived.Test.YtjjbhccbbngdnaaSameByte
namespace Go.Proofs.Ytjjbhccbbngdnaa.fnExactEqualBytes
open Go.ChangeShapes Go.WideShapes Go.ChangeAt Go.RowKit
open Go.ChangeMaps (open_string shut_string)
set_option linter.unusedVariables false

theorem own : ownKnob Try.prog.godebug = none := by kernel_rfl
theorem laidOut : laidOutB Try.prog = true := by kernel_rfl

set_option maxRecDepth 100000 in
set_option maxHeartbeats 4000000 in
theorem walk (a0 : Option Addr) (len0 cap0 : Nat) (z0 : List Int) (a1 : Option Addr) (len1 cap1 : Nat) (z1 : List Int) (w : World) (w0 : IsRow .u8 w a0 len0 cap0 z0) (w1 : IsRow .u8 w a1 len1 cap1 z1) :
    Calls Try.prog 11 #[.slice a0 len0 cap0, .slice a1 len1 cap1] w fun e w' => e = .returned (.bool true) ∧ Below w.heap.size w w' := by
  by_cases hbig0 : 1048576 < len0
  · have hb0 : (1048576 : Int) < (len0 : Int) := by omega
    go_enter Try.func11, Try.ntmps11
    go_wp2
    go_ret
    exact ⟨rfl, Below.refl _ _⟩
  have hn0 : len0 ≤ 1048576 := by omega
  have hp0 : (len0 : Int) ≤ 1048576 := by omega
  clear hbig0
  by_cases hbig1 : 1048576 < len1
  · have hb1 : (1048576 : Int) < (len1 : Int) := by omega
    go_enter Try.func11, Try.ntmps11
    go_wp2
    go_ret
    exact ⟨rfl, Below.refl _ _⟩
  have hn1 : len1 ≤ 1048576 := by omega
  have hp1 : (len1 : Int) ≤ 1048576 := by omega
  clear hbig1
  have h0 := w0.has
  have hF0 := Lib.hid w0.fits
  have hL0 := Lib.hid w0.has.1
  clear w0
  have h1 := w1.has
  have hF1 := Lib.hid w1.fits
  have hL1 := Lib.hid w1.has.1
  clear w1
  go_enter Try.func11, Try.ntmps11
  go_wp2_with fail
  refine (toByte _ _ _ _ _ (h0.mono (Nat.le_refl _)) hn0).mono ?_
  rintro e w1 ⟨rfl, o1, b1⟩
  have lo2 := Nat.le_refl w.heap.size
  have f3 := h0.below (b1.mono (Nat.le_refl _))
  clear h0
  have f4 := h1.below (b1.mono (Nat.le_refl _))
  clear h1
  have B5 := b1
  go_wp2_with fail
  refine (toByte _ _ _ _ _ (f4.mono B5.size) hn1).mono ?_
  rintro e w6 ⟨rfl, o6, b6⟩
  have dj7 := dj_of o1.has o6 (Nat.le_refl _)
  have lo8 := B5.size
  have f9 := f3.below (b6.mono B5.size)
  clear f3
  have f10 := f4.below (b6.mono B5.size)
  clear f4
  have f11 := o1.below b6
  clear o1
  have B12 := Below.seq B5 b6
  go_wp2_with fail
  refine (specEqualBytes _ _ _ _ _ _ _ _ _ _ _ f11.has o6.has hF0.out hF1.out (by omega) (by omega)).mono ?_
  rintro e w' ⟨rfl, rfl⟩
  go_wp2_with fail
  refine (toByte _ _ _ _ _ (f9.mono B12.size) hn0).mono ?_
  rintro e w13 ⟨rfl, o13, b13⟩
  have lo14 := B12.size
  have f15 := f9.below (b13.mono B12.size)
  clear f9
  have f16 := f10.below (b13.mono B12.size)
  clear f10
  have B17 := Below.seq B12 b13
  go_wp2_with fail
  refine (toByte _ _ _ _ _ (f16.mono B17.size) hn1).mono ?_
  rintro e w18 ⟨rfl, o18, b18⟩
  have dj19 := dj_of o13.has o18 (Nat.le_refl _)
  have lo20 := B17.size
  have f21 := f15.below (b18.mono B17.size)
  clear f15
  have f22 := f16.below (b18.mono B17.size)
  clear f16
  have f23 := o13.below b18
  clear o13
  have B24 := Below.seq B17 b18
  go_wp2_with fail
  refine (implEqualBytes _ _ _ _ _ _ _ _ _ _ _ f23.has o18.has (by omega) (by omega)).mono ?_
  rintro e w' ⟨rfl, m25, rfl⟩
  have f26 := f21.drewB m25
  clear f21
  have f27 := f22.drewB m25
  clear f22
  have f28 := f23.drewN m25
  clear f23
  have f29 := o18.drewN m25
  clear o18
  have B30 := Below.drewN' B24 m25
  go_wp2_with fail
  refine (toByte _ _ _ _ _ (f26.mono B30.size) hn0).mono ?_
  rintro e w31 ⟨rfl, o31, b31⟩
  have dj32 := dj_of f28.has o31 (Nat.le_refl _)
  have dj33 := dj_of f29.has o31 (Nat.le_refl _)
  have lo34 := B30.size
  have f35 := f26.below (b31.mono B30.size)
  clear f26
  have f36 := f27.below (b31.mono B30.size)
  clear f27
  have f37 := f28.below b31
  clear f28
  have f38 := f29.below b31
  clear f29
  have B39 := Below.seq B30 b31
  go_wp2_with fail
  refine (eqByte _ _ _ _ _ _ _ _ _ f37.has o31.has (by omega)).mono ?_
  rintro e w' ⟨rfl, m40, rfl⟩
  have f41 := f35.drewB m40
  clear f35
  have f42 := f36.drewB m40
  clear f36
  have f43 := f37.drewN m40
  clear f37
  have f44 := f38.drewN m40
  clear f38
  have f45 := o31.drewN m40
  clear o31
  have B46 := Below.drewN' B39 m40
  go_wp2_with fail
  refine (toByte _ _ _ _ _ (f42.mono B46.size) hn1).mono ?_
  rintro e w47 ⟨rfl, o47, b47⟩
  have dj48 := dj_of f43.has o47 (Nat.le_refl _)
  have dj49 := dj_of f44.has o47 (Nat.le_refl _)
  have lo50 := B46.size
  have f51 := f41.below (b47.mono B46.size)
  clear f41
  have f52 := f42.below (b47.mono B46.size)
  clear f42
  have f53 := f43.below b47
  clear f43
  have f54 := f44.below b47
  clear f44
  have B55 := Below.seq B46 b47
  go_wp2_with fail
  refine (eqByte _ _ _ _ _ _ _ _ _ f54.has o47.has (by omega)).mono ?_
  rintro e w' ⟨rfl, m56, rfl⟩
  have f57 := f51.drewB m56
  clear f51
  have f58 := f52.drewB m56
  clear f52
  have f59 := f53.drewN m56
  clear f53
  have f60 := f54.drewN m56
  clear f54
  have f61 := o47.drewN m56
  clear o47
  have B62 := Below.drewN' B55 m56
  go_wp2_with fail
  go_ret
  exact ⟨rfl, B62⟩

set_option maxRecDepth 100000 in
theorem lifted (os : Os) (started : os.Started) (H : Type) (enc : TypeId × Value → H) :
    ReturnsInHanded {} Try.checked os 11 .any (Rows.fnExactEqualBytesSpec.pre6 enc Try.prog Try.f11 Rows.fnExactEqualBytesRow.domain false) (Rows.fnExactEqualBytesSpec.post enc Try.prog Try.f11 false true false false) := by
  refine returnsInHanded_of_change (C := Try.checked) own started (by kernel_rfl) Try.func11
    (ChangeSpec.witness6 (enc := enc) (C := Try.checked) false ⟨#[], #[.slice none 0 0, .slice none 0 0], []⟩ 8 (by kernel_rfl) (by kernel_rfl) (by kernel_rfl) (by kernel_rfl)) ?_
  intro W base args ds gs before hval0 hW hcnd _
  have hval : ∀ (j : Nat) t v, Try.f11.params[j]? = some t → args[j]? = some v → Value.okWide Try.prog W .any base t v := hval0
  have hW' := hW
  obtain ⟨p, q, hA0, hV, rfl, hfz, hnd⟩ := hW
  have hA : DataW.TrodAll enc Try.prog W 0 (fun _ => true) true Try.f11.params.toList args.toList ds p := hA0
  rw [Try.params11] at hA hval
  obtain ⟨v0, vs0, d0, ds0, p0, q0, hargs, rfl, rfl, h0, r0⟩ := trodAll_cons hA
  obtain ⟨v1, vs1, d1, ds1, p1, q1, rfl, rfl, rfl, h1, r1⟩ := trodAll_cons r0
  obtain ⟨rfl, rfl, rfl⟩ := trodAll_nil r1
  obtain rfl : args = #[v0, v1] := by cases args; simp_all
  obtain ⟨rfl, rfl⟩ := trodVars_none hV
  obtain ⟨a0, len0, cap0, rfl⟩ := okWide_slice Try.underlying22 (hval 0 22 v0 rfl rfl)
  have k0 := h0
  have lt0 : ∀ x ∈ p0, x.block < W.heap.size := by obtain ⟨m, hm⟩ := k0; exact DataW.trod_lt m _ _ _ hm
  obtain ⟨z0, w0⟩ : ∃ zs, IsRow .u8 W a0 len0 cap0 zs := by
    obtain ⟨fuel, hf⟩ := h0
    rcases open_ints Try.underlying22 Try.underlying5 (by kernel_rfl) hf with ⟨hcs, _⟩ | ⟨x, l, c, zs, hcs, _, hl, hm, hz, _, hcell, hwz⟩
    · simp [Value.cells] at hcs
      obtain ⟨rfl, rfl, rfl⟩ := hcs
      exact ⟨[], .inl ⟨rfl, rfl, rfl, rfl⟩⟩
    · simp [Value.cells] at hcs
      obtain ⟨rfl, rfl, rfl⟩ := hcs
      exact ⟨zs, .inr ⟨_, rfl, hl, hm, by simpa using hz, hcell, hwz⟩⟩
  obtain ⟨a1, len1, cap1, rfl⟩ := okWide_slice Try.underlying22 (hval 1 22 v1 rfl rfl)
  have k1 := h1
  have lt1 : ∀ x ∈ p1, x.block < W.heap.size := by obtain ⟨m, hm⟩ := k1; exact DataW.trod_lt m _ _ _ hm
  obtain ⟨z1, w1⟩ : ∃ zs, IsRow .u8 W a1 len1 cap1 zs := by
    obtain ⟨fuel, hf⟩ := h1
    rcases open_ints Try.underlying22 Try.underlying5 (by kernel_rfl) hf with ⟨hcs, _⟩ | ⟨x, l, c, zs, hcs, _, hl, hm, hz, _, hcell, hwz⟩
    · simp [Value.cells] at hcs
      obtain ⟨rfl, rfl, rfl⟩ := hcs
      exact ⟨[], .inl ⟨rfl, rfl, rfl, rfl⟩⟩
    · simp [Value.cells] at hcs
      obtain ⟨rfl, rfl, rfl⟩ := hcs
      exact ⟨zs, .inr ⟨_, rfl, hl, hm, by simpa using hz, hcell, hwz⟩⟩
  clear hA0 hval0
  refine (walk a0 len0 cap0 z0 a1 len1 cap1 z1 W w0 w1).mono fun e W' ⟨he, bel⟩ => ?_
  subst he
  exact ⟨_, rfl, _, _, _, [], _, [], hW', trodAll_mk1 (shut_bool Try.underlying4 _), (trodAll_cons_mk (Below.trod laidOut (by kernel_rfl) (of_decide_eq_true (by kernel_rfl)) k0 bel lt0) (trodAll_cons_mk (Below.trod laidOut (by kernel_rfl) (of_decide_eq_true (by kernel_rfl)) k1 bel lt1) trodAll_mk0)), rfl, bel.frame _, fun h => by cases h⟩

theorem over : Rows.fnExactEqualBytesRow.holds Try.pinned (OpenSpec.ofChange Rows.fnExactEqualBytesSpec) :=
  OpenClaim.holds_of_wide 11 Try.f11 rfl rfl rfl rfl rfl rfl rfl ⟨rfl, rfl, rfl, rfl, rfl⟩ rfl rfl rfl rfl rfl (by kernel_rfl) Try.func11 (by kernel_rfl)
    (of_decide_eq_true (by kernel_rfl)) (by unfold Func.isWrapper; first | (rw [if_pos (by decide +kernel)]; kernel_rfl) | (rw [if_neg (by decide +kernel)]; exact ⟨rfl, rfl⟩))
    (fun os started H enc _ => lifted os started H enc)

theorem proved : Rows.FnExactEqualBytesSaid := over
#print axioms proved
end Go.Proofs.Ytjjbhccbbngdnaa.fnExactEqualBytes
