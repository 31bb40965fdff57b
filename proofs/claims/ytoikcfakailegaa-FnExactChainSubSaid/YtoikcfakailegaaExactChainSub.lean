/- For every integer and every slice of integers, the law on ChainSub returns true and leaves its arguments alone; no further condition. -/
import Derived.Test.YtoikcfakailegaaRows
import Derived.WalkKit
import Derived.ProofKit
import Derived.OpenShut
import Derived.ShutString
import Derived.ChangeOld
import Derived.Below
import Derived.Test.YtoikcfakailegaaBack
namespace Go.Proofs.Ytoikcfakailegaa.fnExactChainSub
open Go.ChangeShapes Go.WideShapes Go.ChangeAt Go.RowKit
open Go.ChangeMaps (open_string shut_string)
set_option linter.unusedVariables false

theorem own : ownKnob Try.prog.godebug = none := by kernel_rfl
theorem laidOut : laidOutB Try.prog = true := by kernel_rfl

set_option maxRecDepth 100000 in
set_option maxHeartbeats 4000000 in
theorem walk (a0 : Int) (a1 : Option Addr) (len1 cap1 : Nat) (z1 : List Int) (w : World) (w0 : (Lit.int .i64 a0).wf = true) (w1 : IsRow .i64 w a1 len1 cap1 z1) :
    Calls Try.prog 12 #[.int .i64 a0, .slice a1 len1 cap1] w fun e w' => e = .returned (.bool true) ∧ Below w.heap.size w w' := by
  by_cases hbig1 : 1048576 < len1
  · have hb1 : (1048576 : Int) < (len1 : Int) := by omega
    go_enter Try.func12, Try.ntmps12
    go_wp2
    go_ret
    exact ⟨rfl, Below.refl _ _⟩
  have hn1 : len1 ≤ 1048576 := by omega
  have hp1 : (len1 : Int) ≤ 1048576 := by omega
  clear hbig1
  have h1 := w1.has
  have hF1 := Lib.hid w1.fits
  have hL1 := Lib.hid w1.has.1
  clear w1
  obtain ⟨il0, ir0⟩ := i64_of w0
  have hw0 := w0
  go_enter Try.func12, Try.ntmps12
  go_wp2_with fail
  refine (toInt _ _ _ _ _ (h1.mono (Nat.le_refl _)) hn1).mono ?_
  rintro e w1 ⟨rfl, o1, b1⟩
  have lo2 := Nat.le_refl w.heap.size
  have f3 := h1.below (b1.mono (Nat.le_refl _))
  clear h1
  have B4 := b1
  go_wp2_with fail
  refine (specChainSub _ _ _ _ _ _ _ o1.has (by omega)).mono ?_
  rintro e w' ⟨rfl, rfl⟩
  go_wp2_with fail
  refine (toInt _ _ _ _ _ (f3.mono B4.size) hn1).mono ?_
  rintro e w5 ⟨rfl, o5, b5⟩
  have lo6 := B4.size
  have f7 := f3.below (b5.mono B4.size)
  clear f3
  have B8 := Below.seq B4 b5
  go_wp2_with fail
  refine (implChainSub _ _ _ _ _ _ o5.has (by omega)).mono ?_
  rintro e w9 ⟨rfl, b9⟩
  have f10 := f7.below (b9.mono B8.size)
  clear f7
  have f11 := o5.below b9
  clear o5
  have B12 := Below.seq B8 b9
  go_wp2_with fail
  refine (toInt _ _ _ _ _ (f10.mono B12.size) hn1).mono ?_
  rintro e w13 ⟨rfl, o13, b13⟩
  have dj14 := dj_of f11.has o13 (Nat.le_refl _)
  have lo15 := B12.size
  have f16 := f10.below (b13.mono B12.size)
  clear f10
  have f17 := f11.below b13
  clear f11
  have B18 := Below.seq B12 b13
  go_wp2_with fail
  refine (eqInt _ _ _ _ _ _ _ _ _ f17.has o13.has (by omega)).mono ?_
  rintro e w' ⟨rfl, m19, rfl⟩
  have f20 := f16.drewB m19
  clear f16
  have f21 := f17.drewN m19
  clear f17
  have f22 := o13.drewN m19
  clear o13
  have B23 := Below.drewN' B18 m19
  go_wp2_with fail
  go_ret
  exact ⟨rfl, B23⟩

set_option maxRecDepth 100000 in
theorem lifted (os : Os) (started : os.Started) (H : Type) (enc : TypeId × Value → H) :
    ReturnsInHanded {} Try.checked os 12 .any (Rows.fnExactChainSubSpec.pre6 enc Try.prog Try.f12 Rows.fnExactChainSubRow.domain false) (Rows.fnExactChainSubSpec.post enc Try.prog Try.f12 false true false false) := by
  refine returnsInHanded_of_change (C := Try.checked) own started (by kernel_rfl) Try.func12
    (ChangeSpec.witness6 (enc := enc) (C := Try.checked) false ⟨#[], #[.int .i64 0, .slice none 0 0], []⟩ 8 (by kernel_rfl) (by kernel_rfl) (by kernel_rfl) (by kernel_rfl)) ?_
  intro W base args ds gs before hval0 hW hcnd _
  have hval : ∀ (j : Nat) t v, Try.f12.params[j]? = some t → args[j]? = some v → Value.okWide Try.prog W .any base t v := hval0
  have hW' := hW
  obtain ⟨p, q, hA0, hV, rfl, hfz, hnd⟩ := hW
  have hA : DataW.TrodAll enc Try.prog W 0 (fun _ => true) true Try.f12.params.toList args.toList ds p := hA0
  rw [Try.params12] at hA hval
  obtain ⟨v0, vs0, d0, ds0, p0, q0, hargs, rfl, rfl, h0, r0⟩ := trodAll_cons hA
  obtain ⟨v1, vs1, d1, ds1, p1, q1, rfl, rfl, rfl, h1, r1⟩ := trodAll_cons r0
  obtain ⟨rfl, rfl, rfl⟩ := trodAll_nil r1
  obtain rfl : args = #[v0, v1] := by cases args; simp_all
  obtain ⟨rfl, rfl⟩ := trodVars_none hV
  obtain ⟨a0, rfl, rfl, rfl, w0⟩ := open_int Try.underlying3 (hval 0 3 v0 rfl rfl) h0
  obtain ⟨a1, len1, cap1, rfl⟩ := okWide_slice Try.underlying27 (hval 1 27 v1 rfl rfl)
  have k1 := h1
  have lt1 : ∀ x ∈ p1, x.block < W.heap.size := by obtain ⟨m, hm⟩ := k1; exact DataW.trod_lt m _ _ _ hm
  obtain ⟨z1, w1⟩ : ∃ zs, IsRow .i64 W a1 len1 cap1 zs := by
    obtain ⟨fuel, hf⟩ := h1
    rcases open_ints Try.underlying27 Try.underlying3 (by kernel_rfl) hf with ⟨hcs, _⟩ | ⟨x, l, c, zs, hcs, _, hl, hm, hz, _, hcell, hwz⟩
    · simp [Value.cells] at hcs
      obtain ⟨rfl, rfl, rfl⟩ := hcs
      exact ⟨[], .inl ⟨rfl, rfl, rfl, rfl⟩⟩
    · simp [Value.cells] at hcs
      obtain ⟨rfl, rfl, rfl⟩ := hcs
      exact ⟨zs, .inr ⟨_, rfl, hl, hm, by simpa using hz, hcell, hwz⟩⟩
  clear hA0 hval0
  refine (walk a0 a1 len1 cap1 z1 W w0 w1).mono fun e W' ⟨he, bel⟩ => ?_
  subst he
  exact ⟨_, rfl, _, _, _, [], _, [], hW', trodAll_mk1 (shut_bool Try.underlying4 _), (trodAll_cons_mk (shut_int Try.underlying3 w0) (trodAll_cons_mk (Below.trod laidOut (by kernel_rfl) (of_decide_eq_true (by kernel_rfl)) k1 bel lt1) trodAll_mk0)), rfl, bel.frame _, fun h => by cases h⟩

theorem over : Rows.fnExactChainSubRow.holds Try.pinned (OpenSpec.ofChange Rows.fnExactChainSubSpec) :=
  OpenClaim.holds_of_wide 12 Try.f12 rfl rfl rfl rfl rfl rfl rfl ⟨rfl, rfl, rfl, rfl, rfl⟩ rfl rfl rfl rfl rfl (by kernel_rfl) Try.func12 (by kernel_rfl)
    (of_decide_eq_true (by kernel_rfl)) (by unfold Func.isWrapper; first | (rw [if_pos (by decide +kernel)]; kernel_rfl) | (rw [if_neg (by decide +kernel)]; exact ⟨rfl, rfl⟩))
    (fun os started H enc _ => lifted os started H enc)

theorem proved : Rows.FnExactChainSubSaid := over
#print axioms proved
end Go.Proofs.Ytoikcfakailegaa.fnExactChainSub
