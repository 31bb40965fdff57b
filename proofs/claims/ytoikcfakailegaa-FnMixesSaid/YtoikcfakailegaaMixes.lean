/- For every byte slice, the law on sums and differences modulo the prime returns true and leaves its argument alone; no further condition. -/
import Derived.Test.YtoikcfakailegaaRows
import Derived.WalkKit
import Derived.ProofKit
import Derived.OpenShut
import Derived.ShutString
import Derived.ChangeOld
import Derived.Below
import Derived.Test.YtoikcfakailegaaDraw3
import Derived.Test.YtoikcfakailegaaModOps
namespace Go.Proofs.Ytoikcfakailegaa.fnMixes
open Go.ChangeShapes Go.WideShapes Go.ChangeAt Go.RowKit
open Go.ChangeMaps (open_string shut_string)
set_option linter.unusedVariables false

theorem own : ownKnob Try.prog.godebug = none := by kernel_rfl
theorem laidOut : laidOutB Try.prog = true := by kernel_rfl

theorem addM_in {b s : Int} (h1 : 0 ≤ b) (h2 : b ≤ 2147483646) (h3 : 0 ≤ s) (h4 : s ≤ 2147483646) : addM b s = (b + s) % 2147483647 := if_pos ⟨h1, h2, h3, h4⟩
theorem subM_in {b s : Int} (h1 : 0 ≤ b) (h2 : b ≤ 2147483646) (h3 : 0 ≤ s) (h4 : s ≤ 2147483646) : subM b s = (b - s) % 2147483647 := if_pos ⟨h1, h2, h3, h4⟩
theorem addM_out {b s : Int} (h : b < 0 ∨ 2147483647 ≤ b ∨ s < 0 ∨ 2147483647 ≤ s) : addM b s = 0 := if_neg (by omega)
theorem mix_facts {b s : Int} (h1 : 0 ≤ b) (h2 : b ≤ 2147483646) (h3 : 0 ≤ s) (h4 : s ≤ 2147483646) :
    (0 ≤ addM b s ∧ addM b s ≤ 2147483646) ∧ subM (addM b s) s = b ∧ addM (subM b s) s = b ∧ addM s b = addM b s := by
  have e1 := addM_in h1 h2 h3 h4
  have e2 := subM_in h1 h2 h3 h4
  have b1 : 0 ≤ addM b s ∧ addM b s ≤ 2147483646 := by rw [e1]; omega
  have b2 : 0 ≤ subM b s ∧ subM b s ≤ 2147483646 := by rw [e2]; omega
  refine ⟨b1, ?_, ?_, ?_⟩
  · rw [subM_in b1.1 b1.2 h3 h4, e1]; omega
  · rw [addM_in b2.1 b2.2 h3 h4, e2]; omega
  · rw [addM_in h3 h4 h1 h2, e1]; omega

set_option maxRecDepth 100000 in
set_option maxHeartbeats 4000000 in
theorem walk (a0 : Option Addr) (len0 cap0 : Nat) (z0 : List Int) (w : World) (w0 : IsRow .u8 w a0 len0 cap0 z0) :
    Calls Try.prog 3 #[.slice a0 len0 cap0] w fun e w' => e = .returned (.bool true) ∧ Below w.heap.size w w' := by
  have hb := w0.bytes8
  by_cases hbig : 1048576 < len0
  · have hbig' : (1048576 : Int) < (len0 : Int) := by omega
    clear w0
    go_enter Try.func3, Try.ntmps3
    go_wp2_with (go_at_call 14; go_in)
    go_ret
    exact ⟨rfl, Below.refl _ _⟩
  have hbig' : (len0 : Int) ≤ 1048576 := by omega
  have hb1 : decide ((1048576 : Int) < (len0 : Int)) = false := by simp; omega
  clear w0
  have HB := Lib.hid hb
  clear hb
  go_enter Try.func3, Try.ntmps3
  go_wp2_with (go_at_call 14; go_in)
  refine (drawAddMod a0 len0 cap0 _ HB.out (by omega)).mono ?_
  rintro e w1 ⟨⟨b, s, rfl, ⟨b1, b2⟩, ⟨s1, s2⟩⟩, hw1⟩
  have HB1 := Lib.hid (HB.out.next hw1)
  go_wp2_with fail
  refine (drawSubMod a0 len0 cap0 _ HB1.out (by omega)).mono ?_
  rintro e w2 ⟨⟨c, d, rfl, hc, hd⟩, hw2⟩
  have hw := Below.seq hw1 hw2
  clear hw1 hw2 hc hd HB HB1
  go_wp2_with fail
  refine (implAddMod _ _ _).mono ?_
  rintro e w' ⟨rfl, rfl⟩
  go_wp2_with fail
  refine (specAddMod _ _ _).mono ?_
  rintro e w' ⟨rfl, rfl⟩
  go_wp2_with fail
  refine (implSubMod _ _ _).mono ?_
  rintro e w' ⟨rfl, rfl⟩
  go_wp2_with fail
  refine (specSubMod _ _ _).mono ?_
  rintro e w' ⟨rfl, rfl⟩
  by_cases hin : 0 ≤ b ∧ b ≤ 2147483646 ∧ 0 ≤ s ∧ s ≤ 2147483646
  · obtain ⟨i1, i2, i3, i4⟩ := hin
    obtain ⟨⟨m1, m2⟩, m3, m4, m5⟩ := mix_facts i1 i2 i3 i4
    have d4 : decide ((2147483647 : Int) ≤ s) = false := by simp; omega
    have M3 := Lib.hid m3
    have M4 := Lib.hid m4
    have M5 := Lib.hid m5
    clear m3 m4 m5
    go_wp2_with fail
    refine (implSubMod _ _ _).mono ?_
    rw [M3.out]
    rintro e w' ⟨rfl, rfl⟩
    go_wp2_with fail
    refine (implSubMod _ _ _).mono ?_
    rintro e w' ⟨rfl, rfl⟩
    go_wp2_with fail
    refine (implAddMod _ _ _).mono ?_
    rw [M4.out]
    rintro e w' ⟨rfl, rfl⟩
    go_wp2_with fail
    refine (implAddMod _ _ _).mono ?_
    rw [M5.out]
    rintro e w' ⟨rfl, rfl⟩
    go_wp2_with fail
    go_ret
    exact ⟨rfl, hw⟩
  · have hz := addM_out (b := b) (s := s) (by omega)
    rw [hz]
    clear hz
    by_cases j1 : b < 0
    · go_wp2_with fail
      go_ret
      exact ⟨rfl, hw⟩
    · have j1' : 0 ≤ b := by omega
      by_cases j2 : 2147483647 ≤ b
      · go_wp2_with fail
        go_ret
        exact ⟨rfl, hw⟩
      · have j2' : b < 2147483647 := by omega
        by_cases j3 : s < 0
        · go_wp2_with fail
          go_ret
          exact ⟨rfl, hw⟩
        · have j3' : 0 ≤ s := by omega
          have d4 : decide ((2147483647 : Int) ≤ s) = true := by simp; omega
          go_wp2_with fail
          go_ret
          exact ⟨rfl, hw⟩

set_option maxRecDepth 100000 in
theorem lifted (os : Os) (started : os.Started) (H : Type) (enc : TypeId × Value → H) :
    ReturnsInHanded {} Try.checked os 3 .any (Rows.fnMixesSpec.pre6 enc Try.prog Try.f3 Rows.fnMixesRow.domain false) (Rows.fnMixesSpec.post enc Try.prog Try.f3 false true false false) := by
  refine returnsInHanded_of_change (C := Try.checked) own started (by kernel_rfl) Try.func3
    (ChangeSpec.witness6 (enc := enc) (C := Try.checked) false ⟨#[], #[.slice none 0 0], []⟩ 8 (by kernel_rfl) (by kernel_rfl) (by kernel_rfl) (by kernel_rfl)) ?_
  intro W base args ds gs before hval0 hW hcnd _
  have hval : ∀ (j : Nat) t v, Try.f3.params[j]? = some t → args[j]? = some v → Value.okWide Try.prog W .any base t v := hval0
  have hW' := hW
  obtain ⟨p, q, hA0, hV, rfl, hfz, hnd⟩ := hW
  have hA : DataW.TrodAll enc Try.prog W 0 (fun _ => true) true Try.f3.params.toList args.toList ds p := hA0
  rw [Try.params3] at hA hval
  obtain ⟨v0, vs0, d0, ds0, p0, q0, hargs, rfl, rfl, h0, r0⟩ := trodAll_cons hA
  obtain ⟨rfl, rfl, rfl⟩ := trodAll_nil r0
  obtain rfl : args = #[v0] := by cases args; simp_all
  obtain ⟨rfl, rfl⟩ := trodVars_none hV
  obtain ⟨a0, len0, cap0, rfl⟩ := okWide_slice Try.underlying22 (hval 0 22 v0 rfl rfl)
  have k0 := h0
  have lt0 : ∀ x ∈ p0, x.block < W.heap.size := by obtain ⟨m, hm⟩ := k0; exact DataW.trod_lt m _ _ _ hm
  obtain ⟨z0, w0⟩ : ∃ zs, IsRow .u8 W a0 len0 cap0 zs := by
    obtain ⟨fuel, hf⟩ := h0
    rcases open_ints Try.underlying22 Try.underlying5 (by kernel_rfl) hf with ⟨hcs, _⟩ | ⟨x, l, c, zs, hcs, _, hl, hm, hz, _, hcell, hwz⟩
    · simp [Value.cells] at hcs
      obtain ⟨rfl, rfl, rfl⟩ := hcs
      exact ⟨[], .inl ⟨rfl, rfl, rfl, rfl⟩⟩
    · simp [Value.cells] at hcs
      obtain ⟨rfl, rfl, rfl⟩ := hcs
      exact ⟨zs, .inr ⟨_, rfl, hl, hm, by simpa using hz, hcell, hwz⟩⟩
  clear hA0 hval0
  refine (walk a0 len0 cap0 z0 W w0).mono fun e W' ⟨he, bel⟩ => ?_
  subst he
  exact ⟨_, rfl, _, _, _, [], _, [], hW', trodAll_mk1 (shut_bool Try.underlying4 _), (trodAll_cons_mk (Below.trod laidOut (by kernel_rfl) (of_decide_eq_true (by kernel_rfl)) k0 bel lt0) trodAll_mk0), rfl, bel.frame _, fun h => by cases h⟩

theorem over : Rows.fnMixesRow.holds Try.pinned (OpenSpec.ofChange Rows.fnMixesSpec) :=
  OpenClaim.holds_of_wide 3 Try.f3 rfl rfl rfl rfl rfl rfl rfl ⟨rfl, rfl, rfl, rfl, rfl⟩ rfl rfl rfl rfl rfl (by kernel_rfl) Try.func3 (by kernel_rfl)
    (of_decide_eq_true (by kernel_rfl)) (by unfold Func.isWrapper; first | (rw [if_pos (by decide +kernel)]; kernel_rfl) | (rw [if_neg (by decide +kernel)]; exact ⟨rfl, rfl⟩))
    (fun os started H enc _ => lifted os started H enc)

theorem proved : Rows.FnMixesSaid := over
#print axioms proved
end Go.Proofs.Ytoikcfakailegaa.fnMixes
