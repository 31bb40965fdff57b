/- For every byte slice, every offset and every limit, the law on ReadBytes returns true and leaves its arguments alone; no further condition. -/
import Derived.Test.YtjjbhccbbngdnaaRows
import Derived.WalkKit
import Derived.ProofKit
import Derived.OpenShut
import Derived.ShutString
import Derived.ChangeOld
import Derived.Below
import Derived.Test.YtjjbhccbbngdnaaReadB
import Derived.Test.YtjjbhccbbngdnaaByteMark
namespace Go.Proofs.Ytjjbhccbbngdnaa.fnExactReadBytes
open Go.ChangeShapes Go.WideShapes Go.ChangeAt Go.RowKit
open Go.ChangeMaps (open_string shut_string)
set_option linter.unusedVariables false

theorem own : ownKnob Try.prog.godebug = none := by kernel_rfl
theorem laidOut : laidOutB Try.prog = true := by kernel_rfl

set_option maxRecDepth 100000 in
set_option maxHeartbeats 4000000 in
theorem walk (a0 : Option Addr) (len0 cap0 : Nat) (z0 : List Int) (a1 : Int) (a2 : Int) (w : World) (w0 : IsRow .u8 w a0 len0 cap0 z0) (w1 : (Lit.int .i64 a1).wf = true) (w2 : (Lit.int .i64 a2).wf = true) :
    Calls Try.prog 8 #[.slice a0 len0 cap0, .int .i64 a1, .int .i64 a2] w fun e w' => e = .returned (.bool true) ∧ Below w.heap.size w w' := by
  by_cases hbig0 : 1048576 < len0
  · have hb0 : (1048576 : Int) < (len0 : Int) := by omega
    go_enter Try.func8, Try.ntmps8
    go_wp2
    go_ret
    exact ⟨rfl, Below.refl _ _⟩
  have hn0 : len0 ≤ 1048576 := by omega
  have hp0 : (len0 : Int) ≤ 1048576 := by omega
  clear hbig0
  have h0 := w0.has
  have hF0 := Lib.hid w0.fits
  have hL0 := Lib.hid w0.has.1
  clear w0
  obtain ⟨il1, ir1⟩ := i64_of w1
  have hw1 := w1
  obtain ⟨il2, ir2⟩ := i64_of w2
  have hw2 := w2
  go_enter Try.func8, Try.ntmps8
  go_wp2_with fail
  refine (toByte _ _ _ _ _ (h0.mono (Nat.le_refl _)) hn0).mono ?_
  rintro e w1 ⟨rfl, o1, b1⟩
  have lo2 := Nat.le_refl w.heap.size
  have f3 := h0.below (b1.mono (Nat.le_refl _))
  clear h0
  have B4 := b1
  go_wp2_with fail
  refine (specReadB _ _ _ _ _ _ _ _ o1.has hF0.out (by omega) (by omega) hw1).mono ?_
  rintro e w5 ⟨A5, N5, c5, rfl, hc5, o5, b5⟩
  have hb5 : N5 ≤ 1073741824 := by have h1 := o5.1; have h2 := rbR_len (List.take len0 z0) a1 a2; have h3 := hL0.out; omega
  have hC5 := Lib.hid hc5
  clear hc5
  have dj6 := dj_of o1.has o5 (Nat.le_refl _)
  have lo7 := B4.size
  have f8 := f3.below (b5.mono B4.size)
  clear f3
  have f9 := o1.below b5
  clear o1
  have B10 := Below.seq B4 b5
  go_wp2_with fail
  refine (toByte _ _ _ _ _ (f8.mono B10.size) hn0).mono ?_
  rintro e w11 ⟨rfl, o11, b11⟩
  have dj12 := dj_of o5.has o11 (Nat.le_refl _)
  have lo13 := B10.size
  have f14 := f8.below (b11.mono B10.size)
  clear f8
  have f15 := o5.below b11
  clear o5
  have B16 := Below.seq B10 b11
  go_wp2_with fail
  refine (implReadB _ _ _ _ _ _ _ _ o11.has hF0.out (by omega) (by omega) hw1).mono ?_
  rintro e w17 ⟨A17, N17, c17, rfl, hc17, o17, b17⟩
  obtain rfl : N5 = N17 := f15.1.symm.trans o17.1
  have hC17 := Lib.hid hc17
  clear hc17
  have dj18 := dj_of f15.has o17 (Nat.le_refl _)
  have dj19 := dj_of o11.has o17 (Nat.le_refl _)
  have lo20 := B16.size
  have f21 := f14.below (b17.mono B16.size)
  clear f14
  have f22 := f15.below b17
  clear f15
  have f23 := o11.below b17
  clear o11
  have B24 := Below.seq B16 b17
  go_wp2_with fail
  refine (eqByte _ _ _ _ _ _ _ _ _ o17.has f22.has hb5).mono ?_
  rintro e w' ⟨rfl, m25, rfl⟩
  have f26 := f21.drewB m25
  clear f21
  have f27 := f22.drewN m25
  clear f22
  have f28 := f23.drewN m25
  clear f23
  have f29 := o17.drewN m25
  clear o17
  have B30 := Below.drewN' B24 m25
  go_wp2_with fail
  refine (toByte _ _ _ _ _ (f26.mono B30.size) hn0).mono ?_
  rintro e w31 ⟨rfl, o31, b31⟩
  have dj32 := dj_of f27.has o31 (Nat.le_refl _)
  have dj33 := dj_of f28.has o31 (Nat.le_refl _)
  have dj34 := dj_of f29.has o31 (Nat.le_refl _)
  have lo35 := B30.size
  have f36 := f26.below (b31.mono B30.size)
  clear f26
  have f37 := f27.below b31
  clear f27
  have f38 := f28.below b31
  clear f28
  have f39 := f29.below b31
  clear f29
  have B40 := Below.seq B30 b31
  go_wp2_with fail
  refine (eqByte _ _ _ _ _ _ _ _ _ f38.has o31.has (by omega)).mono ?_
  rintro e w' ⟨rfl, m41, rfl⟩
  have f42 := f36.drewB m41
  clear f36
  have f43 := f37.drewN m41
  clear f37
  have f44 := f38.drewN m41
  clear f38
  have f45 := f39.drewN m41
  clear f39
  have f46 := o31.drewN m41
  clear o31
  have B47 := Below.drewN' B40 m41
  go_wp2_with fail
  refine (markByte _ _ _ _ _ _ _ f44 (by omega) (by omega) (by omega)).mono ?_
  rintro e w48 ⟨rfl, o48, g48⟩
  have f49 := f42.far f44 lo13 B47.size g48
  clear f42
  have B50 := Below.far B47 f44 lo13 B47.size g48
  have f51 := f43.far g48 dj12
  clear f43
  have f52 := f45.far g48 dj19.symm
  clear f45
  clear f44
  go_wp2_with fail
  refine (eqByte _ _ _ _ _ _ _ _ _ f52.has f51.has hb5).mono ?_
  rintro e w' ⟨rfl, m53, rfl⟩
  have f54 := f49.drewB m53
  clear f49
  have f55 := f51.drewN m53
  clear f51
  have f56 := o48.drewN m53
  clear o48
  have f57 := f52.drewN m53
  clear f52
  have B58 := Below.drewN' B50 m53
  go_wp2_with fail
  refine (markByte _ _ _ _ _ _ _ f57 hb5 (by omega) (by omega)).mono ?_
  rintro e w59 ⟨rfl, o59, g59⟩
  have f60 := f54.far f57 lo20 B58.size g59
  clear f54
  have B61 := Below.far B58 f57 lo20 B58.size g59
  have f62 := f55.far g59 dj18
  clear f55
  have f63 := f56.far g59 dj19
  clear f56
  clear f57
  go_wp2_with fail
  refine (heldByte _ _ _ _ _ _ o59.has hb5 (by omega) (by omega)).mono ?_
  rintro e w' ⟨rfl, rfl⟩
  go_wp2_with fail
  refine (toByte _ _ _ _ _ (f60.mono B61.size) hn0).mono ?_
  rintro e w64 ⟨rfl, o64, b64⟩
  have dj65 := dj_of f62.has o64 (Nat.le_refl _)
  have dj66 := dj_of f63.has o64 (Nat.le_refl _)
  have dj67 := dj_of o59.has o64 (Nat.le_refl _)
  have lo68 := B61.size
  have f69 := f60.below (b64.mono B61.size)
  clear f60
  have f70 := f62.below b64
  clear f62
  have f71 := f63.below b64
  clear f63
  have f72 := o59.below b64
  clear o59
  have B73 := Below.seq B61 b64
  go_wp2_with fail
  refine (implReadB _ _ _ _ _ _ _ _ o64.has hF0.out (by omega) (by omega) hw1).mono ?_
  rintro e w74 ⟨A74, N74, c74, rfl, hc74, o74, b74⟩
  obtain rfl : N5 = N74 := f70.1.symm.trans o74.1
  have hC74 := Lib.hid hc74
  clear hc74
  have dj75 := dj_of f70.has o74 (Nat.le_refl _)
  have dj76 := dj_of f71.has o74 (Nat.le_refl _)
  have dj77 := dj_of f72.has o74 (Nat.le_refl _)
  have dj78 := dj_of o64.has o74 (Nat.le_refl _)
  have lo79 := B73.size
  have f80 := f69.below (b74.mono B73.size)
  clear f69
  have f81 := f70.below b74
  clear f70
  have f82 := f71.below b74
  clear f71
  have f83 := f72.below b74
  clear f72
  have f84 := o64.below b74
  clear o64
  have B85 := Below.seq B73 b74
  go_wp2_with fail
  refine (eqByte _ _ _ _ _ _ _ _ _ o74.has f81.has hb5).mono ?_
  rintro e w' ⟨rfl, m86, rfl⟩
  have f87 := f80.drewB m86
  clear f80
  have f88 := f81.drewN m86
  clear f81
  have f89 := f82.drewN m86
  clear f82
  have f90 := f83.drewN m86
  clear f83
  have f91 := f84.drewN m86
  clear f84
  have f92 := o74.drewN m86
  clear o74
  have B93 := Below.drewN' B85 m86
  go_wp2_with fail
  refine (heldByte _ _ _ _ _ _ f90.has hb5 (by omega) (by omega)).mono ?_
  rintro e w' ⟨rfl, rfl⟩
  go_wp2_with fail
  go_ret
  exact ⟨rfl, B93⟩

set_option maxRecDepth 100000 in
theorem lifted (os : Os) (started : os.Started) (H : Type) (enc : TypeId × Value → H) :
    ReturnsInHanded {} Try.checked os 8 .any (Rows.fnExactReadBytesSpec.pre6 enc Try.prog Try.f8 Rows.fnExactReadBytesRow.domain false) (Rows.fnExactReadBytesSpec.post enc Try.prog Try.f8 false true false false) := by
  refine returnsInHanded_of_change (C := Try.checked) own started (by kernel_rfl) Try.func8
    (ChangeSpec.witness6 (enc := enc) (C := Try.checked) false ⟨#[], #[.slice none 0 0, .int .i64 0, .int .i64 0], []⟩ 8 (by kernel_rfl) (by kernel_rfl) (by kernel_rfl) (by kernel_rfl)) ?_
  intro W base args ds gs before hval0 hW hcnd _
  have hval : ∀ (j : Nat) t v, Try.f8.params[j]? = some t → args[j]? = some v → Value.okWide Try.prog W .any base t v := hval0
  have hW' := hW
  obtain ⟨p, q, hA0, hV, rfl, hfz, hnd⟩ := hW
  have hA : DataW.TrodAll enc Try.prog W 0 (fun _ => true) true Try.f8.params.toList args.toList ds p := hA0
  rw [Try.params8] at hA hval
  obtain ⟨v0, vs0, d0, ds0, p0, q0, hargs, rfl, rfl, h0, r0⟩ := trodAll_cons hA
  obtain ⟨v1, vs1, d1, ds1, p1, q1, rfl, rfl, rfl, h1, r1⟩ := trodAll_cons r0
  obtain ⟨v2, vs2, d2, ds2, p2, q2, rfl, rfl, rfl, h2, r2⟩ := trodAll_cons r1
  obtain ⟨rfl, rfl, rfl⟩ := trodAll_nil r2
  obtain rfl : args = #[v0, v1, v2] := by cases args; simp_all
  obtain ⟨rfl, rfl⟩ := trodVars_none hV
  obtain ⟨a0, len0, cap0, rfl⟩ := okWide_slice Try.underlying22 (hval 0 22 v0 rfl rfl)
  have k0 := h0
  have lt0 : ∀ x ∈ p0, x.block < W.heap.size := by obtain ⟨m, hm⟩ := k0; exact DataW.trod_lt m _ _ _ hm
  obtain ⟨z0, w0⟩ : ∃ zs, IsRow .u8 W a0 len0 cap0 zs := by
    obtain ⟨fuel, hf⟩ := h0
    rcases open_ints Try.underlying22 Try.underlying5 (by kernel_rfl) hf with ⟨hcs, _⟩ | ⟨x, l, c, zs, hcs, _, hl, hm, hz, _, hcell, hwz⟩
    · simp [Value.cells] at hcs
      obtain ⟨rfl, rfl, rfl⟩ := hcs
      exact ⟨[], .inl ⟨rfl, rfl, rfl, rfl⟩⟩
    · simp [Value.cells] at hcs
      obtain ⟨rfl, rfl, rfl⟩ := hcs
      exact ⟨zs, .inr ⟨_, rfl, hl, hm, by simpa using hz, hcell, hwz⟩⟩
  obtain ⟨a1, rfl, rfl, rfl, w1⟩ := open_int Try.underlying3 (hval 1 3 v1 rfl rfl) h1
  obtain ⟨a2, rfl, rfl, rfl, w2⟩ := open_int Try.underlying3 (hval 2 3 v2 rfl rfl) h2
  clear hA0 hval0
  refine (walk a0 len0 cap0 z0 a1 a2 W w0 w1 w2).mono fun e W' ⟨he, bel⟩ => ?_
  subst he
  exact ⟨_, rfl, _, _, _, [], _, [], hW', trodAll_mk1 (shut_bool Try.underlying4 _), (trodAll_cons_mk (Below.trod laidOut (by kernel_rfl) (of_decide_eq_true (by kernel_rfl)) k0 bel lt0) (trodAll_cons_mk (shut_int Try.underlying3 w1) (trodAll_cons_mk (shut_int Try.underlying3 w2) trodAll_mk0))), rfl, bel.frame _, fun h => by cases h⟩

theorem over : Rows.fnExactReadBytesRow.holds Try.pinned (OpenSpec.ofChange Rows.fnExactReadBytesSpec) :=
  OpenClaim.holds_of_wide 8 Try.f8 rfl rfl rfl rfl rfl rfl rfl ⟨rfl, rfl, rfl, rfl, rfl⟩ rfl rfl rfl rfl rfl (by kernel_rfl) Try.func8 (by kernel_rfl)
    (of_decide_eq_true (by kernel_rfl)) (by unfold Func.isWrapper; first | (rw [if_pos (by decide +kernel)]; kernel_rfl) | (rw [if_neg (by decide +kernel)]; exact ⟨rfl, rfl⟩))
    (fun os started H enc _ => lifted os started H enc)

theorem proved : Rows.FnExactReadBytesSaid := over
#print axioms proved
end Go.Proofs.Ytjjbhccbbngdnaa.fnExactReadBytes
