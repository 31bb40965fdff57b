/- For every byte slice and every offset, the law on ReadVarint returns true and leaves its arguments alone; no further condition. -/
import Derived.Test.YtjjbhccbbngdnaaRows
import Derived.WalkKit
import Derived.ProofKit
import Derived.OpenShut
import Derived.ShutString
import Derived.ChangeOld
import Derived.Below
import Derived.Test.YtjjbhccbbngdnaaRead
import Derived.Test.YtjjbhccbbngdnaaByteS
namespace Go.Proofs.Ytjjbhccbbngdnaa.fnExactReadVarint
open Go.ChangeShapes Go.WideShapes Go.ChangeAt Go.RowKit
open Go.ChangeMaps (open_string shut_string)
set_option linter.unusedVariables false

theorem own : ownKnob Try.prog.godebug = none := by kernel_rfl
theorem laidOut : laidOutB Try.prog = true := by kernel_rfl

set_option maxRecDepth 100000 in
set_option maxHeartbeats 4000000 in
theorem walk (a0 : Option Addr) (len0 cap0 : Nat) (z0 : List Int) (a1 : Int) (w : World) (w0 : IsRow .u8 w a0 len0 cap0 z0) (w1 : (Lit.int .i64 a1).wf = true) :
    Calls Try.prog 6 #[.slice a0 len0 cap0, .int .i64 a1] w fun e w' => e = .returned (.bool true) ∧ Below w.heap.size w w' := by
  by_cases hbig0 : 1048576 < len0
  · have hb0 : (1048576 : Int) < (len0 : Int) := by omega
    go_enter Try.func6, Try.ntmps6
    go_wp2
    go_ret
    exact ⟨rfl, Below.refl _ _⟩
  have hn0 : len0 ≤ 1048576 := by omega
  have hp0 : (len0 : Int) ≤ 1048576 := by omega
  clear hbig0
  have h0 := w0.has
  have hF0 := Lib.hid w0.fits
  have hL0 := Lib.hid w0.has.1
  clear w0
  obtain ⟨il1, ir1⟩ := i64_of w1
  have hw1 := w1
  rcases hr : rdAt (List.take len0 z0) a1 with _ | ⟨rn, rm⟩
  · have HR := Lib.hid hr
    clear hr
    go_enter Try.func6, Try.ntmps6
    go_wp2_with fail
    refine (toByte _ _ _ _ _ (h0.mono (Nat.le_refl _)) hn0).mono ?_
    rintro e w1 ⟨rfl, o1, b1⟩
    have lo2 := Nat.le_refl w.heap.size
    have f3 := h0.below (b1.mono (Nat.le_refl _))
    clear h0
    have B4 := b1
    go_wp2_with fail
    refine (specReadNone _ _ _ _ _ _ _ o1.has hF0.out (by omega) hw1 HR.out).mono ?_
    rintro e w' ⟨rfl, rfl⟩
    go_wp2_with fail
    refine (toByte _ _ _ _ _ (f3.mono B4.size) hn0).mono ?_
    rintro e w5 ⟨rfl, o5, b5⟩
    have lo6 := B4.size
    have f7 := f3.below (b5.mono B4.size)
    clear f3
    have B8 := Below.seq B4 b5
    go_wp2_with fail
    refine (implReadNone _ _ _ _ _ _ o5.has hF0.out (by omega) (by omega) hw1 HR.out).mono ?_
    rintro e w9 ⟨rfl, b9⟩
    have f10 := f7.below (b9.mono B8.size)
    clear f7
    have f11 := o5.below b9
    clear o5
    have B12 := Below.seq B8 b9
    go_wp2_with fail
    refine (toByte _ _ _ _ _ (f10.mono B12.size) hn0).mono ?_
    rintro e w13 ⟨rfl, o13, b13⟩
    have dj14 := dj_of f11.has o13 (Nat.le_refl _)
    have lo15 := B12.size
    have f16 := f10.below (b13.mono B12.size)
    clear f10
    have f17 := f11.below b13
    clear f11
    have B18 := Below.seq B12 b13
    go_wp2_with fail
    refine (eqByte _ _ _ _ _ _ _ _ _ f17.has o13.has (by omega)).mono ?_
    rintro e w' ⟨rfl, m19, rfl⟩
    have f20 := f16.drewB m19
    clear f16
    have f21 := f17.drewN m19
    clear f17
    have f22 := o13.drewN m19
    clear o13
    have B23 := Below.drewN' B18 m19
    go_wp2_with fail
    go_ret
    exact ⟨rfl, B23⟩
  · have HR := Lib.hid hr
    clear hr
    go_enter Try.func6, Try.ntmps6
    go_wp2_with fail
    refine (toByte _ _ _ _ _ (h0.mono (Nat.le_refl _)) hn0).mono ?_
    rintro e w1 ⟨rfl, o1, b1⟩
    have lo2 := Nat.le_refl w.heap.size
    have f3 := h0.below (b1.mono (Nat.le_refl _))
    clear h0
    have B4 := b1
    go_wp2_with fail
    refine (specReadSome _ _ _ _ _ _ _ o1.has hF0.out (by omega) hw1 HR.out).mono ?_
    rintro e w' ⟨rfl, rfl⟩
    go_wp2_with fail
    refine (toByte _ _ _ _ _ (f3.mono B4.size) hn0).mono ?_
    rintro e w5 ⟨rfl, o5, b5⟩
    have lo6 := B4.size
    have f7 := f3.below (b5.mono B4.size)
    clear f3
    have B8 := Below.seq B4 b5
    go_wp2_with fail
    refine (implReadSome _ _ _ _ _ _ o5.has hF0.out (by omega) (by omega) hw1 HR.out).mono ?_
    rintro e w9 ⟨rfl, b9⟩
    have f10 := f7.below (b9.mono B8.size)
    clear f7
    have f11 := o5.below b9
    clear o5
    have B12 := Below.seq B8 b9
    go_wp2_with fail
    refine (toByte _ _ _ _ _ (f10.mono B12.size) hn0).mono ?_
    rintro e w13 ⟨rfl, o13, b13⟩
    have dj14 := dj_of f11.has o13 (Nat.le_refl _)
    have lo15 := B12.size
    have f16 := f10.below (b13.mono B12.size)
    clear f10
    have f17 := f11.below b13
    clear f11
    have B18 := Below.seq B12 b13
    go_wp2_with fail
    refine (eqByte _ _ _ _ _ _ _ _ _ f17.has o13.has (by omega)).mono ?_
    rintro e w' ⟨rfl, m19, rfl⟩
    have f20 := f16.drewB m19
    clear f16
    have f21 := f17.drewN m19
    clear f17
    have f22 := o13.drewN m19
    clear o13
    have B23 := Below.drewN' B18 m19
    go_wp2_with fail
    go_ret
    exact ⟨rfl, B23⟩

set_option maxRecDepth 100000 in
theorem lifted (os : Os) (started : os.Started) (H : Type) (enc : TypeId × Value → H) :
    ReturnsInHanded {} Try.checked os 6 .any (Rows.fnExactReadVarintSpec.pre6 enc Try.prog Try.f6 Rows.fnExactReadVarintRow.domain false) (Rows.fnExactReadVarintSpec.post enc Try.prog Try.f6 false true false false) := by
  refine returnsInHanded_of_change (C := Try.checked) own started (by kernel_rfl) Try.func6
    (ChangeSpec.witness6 (enc := enc) (C := Try.checked) false ⟨#[], #[.slice none 0 0, .int .i64 0], []⟩ 8 (by kernel_rfl) (by kernel_rfl) (by kernel_rfl) (by kernel_rfl)) ?_
  intro W base args ds gs before hval0 hW hcnd _
  have hval : ∀ (j : Nat) t v, Try.f6.params[j]? = some t → args[j]? = some v → Value.okWide Try.prog W .any base t v := hval0
  have hW' := hW
  obtain ⟨p, q, hA0, hV, rfl, hfz, hnd⟩ := hW
  have hA : DataW.TrodAll enc Try.prog W 0 (fun _ => true) true Try.f6.params.toList args.toList ds p := hA0
  rw [Try.params6] at hA hval
  obtain ⟨v0, vs0, d0, ds0, p0, q0, hargs, rfl, rfl, h0, r0⟩ := trodAll_cons hA
  obtain ⟨v1, vs1, d1, ds1, p1, q1, rfl, rfl, rfl, h1, r1⟩ := trodAll_cons r0
  obtain ⟨rfl, rfl, rfl⟩ := trodAll_nil r1
  obtain rfl : args = #[v0, v1] := by cases args; simp_all
  obtain ⟨rfl, rfl⟩ := trodVars_none hV
  obtain ⟨a0, len0, cap0, rfl⟩ := okWide_slice Try.underlying22 (hval 0 22 v0 rfl rfl)
  have k0 := h0
  have lt0 : ∀ x ∈ p0, x.block < W.heap.size := by obtain ⟨m, hm⟩ := k0; exact DataW.trod_lt m _ _ _ hm
  obtain ⟨z0, w0⟩ : ∃ zs, IsRow .u8 W a0 len0 cap0 zs := by
    obtain ⟨fuel, hf⟩ := h0
    rcases open_ints Try.underlying22 Try.underlying5 (by kernel_rfl) hf with ⟨hcs, _⟩ | ⟨x, l, c, zs, hcs, _, hl, hm, hz, _, hcell, hwz⟩
    · simp [Value.cells] at hcs
      obtain ⟨rfl, rfl, rfl⟩ := hcs
      exact ⟨[], .inl ⟨rfl, rfl, rfl, rfl⟩⟩
    · simp [Value.cells] at hcs
      obtain ⟨rfl, rfl, rfl⟩ := hcs
      exact ⟨zs, .inr ⟨_, rfl, hl, hm, by simpa using hz, hcell, hwz⟩⟩
  obtain ⟨a1, rfl, rfl, rfl, w1⟩ := open_int Try.underlying3 (hval 1 3 v1 rfl rfl) h1
  clear hA0 hval0
  refine (walk a0 len0 cap0 z0 a1 W w0 w1).mono fun e W' ⟨he, bel⟩ => ?_
  subst he
  exact ⟨_, rfl, _, _, _, [], _, [], hW', trodAll_mk1 (shut_bool Try.underlying4 _), (trodAll_cons_mk (Below.trod laidOut (by kernel_rfl) (of_decide_eq_true (by kernel_rfl)) k0 bel lt0) (trodAll_cons_mk (shut_int Try.underlying3 w1) trodAll_mk0)), rfl, bel.frame _, fun h => by cases h⟩

theorem over : Rows.fnExactReadVarintRow.holds Try.pinned (OpenSpec.ofChange Rows.fnExactReadVarintSpec) :=
  OpenClaim.holds_of_wide 6 Try.f6 rfl rfl rfl rfl rfl rfl rfl ⟨rfl, rfl, rfl, rfl, rfl⟩ rfl rfl rfl rfl rfl (by kernel_rfl) Try.func6 (by kernel_rfl)
    (of_decide_eq_true (by kernel_rfl)) (by unfold Func.isWrapper; first | (rw [if_pos (by decide +kernel)]; kernel_rfl) | (rw [if_neg (by decide +kernel)]; exact ⟨rfl, rfl⟩))
    (fun os started H enc _ => lifted os started H enc)

theorem proved : Rows.FnExactReadVarintSaid := over
#print axioms proved
end Go.Proofs.Ytjjbhccbbngdnaa.fnExactReadVarint
