/- The walk of the law on rounding. -/
import Derived.Test.YtkplenmjmnaniaaNum1
import Derived.Test.YtkplenmjmnaniaaDraw1
namespace Go.Proofs.Ytkplenmjmnaniaa
open Go.ChangeShapes Go.WideShapes Go.ChangeAt Go.RowKit
set_option linter.unusedVariables false
theorem ceil_cases (a b : Int) :
    (a < 0) ∨ (0 ≤ a ∧ 1000000000000 < a) ∨ (0 ≤ a ∧ a ≤ 1000000000000 ∧ b < 1) ∨ (0 ≤ a ∧ a ≤ 1000000000000 ∧ 1 ≤ b ∧ 1000000000000 < b) ∨
    (0 ≤ a ∧ a ≤ 1000000000000 ∧ 1 ≤ b ∧ b ≤ 1000000000000 ∧ ((0 : Int) < a → 0 < ceilV a b) ∧ 0 ≤ ceilV a b ∧ ceilV a b ≤ 1000000000000 ∧ (0 < ceilV a b → (ceilV a b - 1) * b < a)) := by
  by_cases c1 : 0 ≤ a
  · by_cases c2 : a ≤ 1000000000000
    · by_cases c3 : 1 ≤ b
      · by_cases c4 : b ≤ 1000000000000
        · refine .inr (.inr (.inr (.inr ⟨c1, c2, c3, c4, ?_⟩)))
          have hv : ceilV a b = (a + b - 1) / b := if_pos ⟨c1, c2, c3, c4⟩
          rw [hv]
          have h1 := Int.mul_ediv_add_emod (a + b - 1) b
          have h2 := Int.emod_nonneg (a + b - 1) (show b ≠ 0 by omega)
          have h3 := Int.emod_lt_of_pos (a + b - 1) (show 0 < b by omega)
          have h4 : 0 ≤ (a + b - 1) / b := Int.ediv_nonneg (by omega) (by omega)
          refine ⟨fun h => ?_, h4, ?_, fun _ => ?_⟩
          · have : 1 ≤ (a + b - 1) / b := by rw [Int.le_ediv_iff_mul_le (by omega)]; omega
            omega
          · have : (a + b - 1) / b < 1000000000001 := by
              rw [Int.ediv_lt_iff_lt_mul (by omega)]
              have := Int.mul_le_mul_of_nonneg_left c3 (show (0 : Int) ≤ 1000000000000 by omega)
              omega
            omega
          · rw [Int.sub_mul, Int.mul_comm]
            omega
        · exact .inr (.inr (.inr (.inl ⟨c1, c2, c3, by omega⟩)))
      · exact .inr (.inr (.inl ⟨c1, c2, by omega⟩))
    · exact .inr (.inl ⟨c1, by omega⟩)
  · exact .inl (by omega)

theorem mod_cases (p q : Int) :
    (q < 1) ∨ (1 ≤ q ∧ 1000000000000 < q) ∨ (1 ≤ q ∧ q ≤ 1000000000000 ∧ 0 ≤ modV p q ∧ modV p q < q ∧ (p.tmod q = modV p q ∨ (p.tmod q ≠ modV p q ∧ p.tmod q = modV p q - q))) := by
  by_cases c1 : 1 ≤ q
  · by_cases c2 : q ≤ 1000000000000
    · refine .inr (.inr ⟨c1, c2, ?_⟩)
      have hv : modV p q = p % q := if_pos ⟨c1, c2⟩
      have h := tmod_emod p q (by omega)
      have h1 := Int.emod_nonneg p (show q ≠ 0 by omega)
      have h2 := Int.emod_lt_of_pos p (show 0 < q by omega)
      rw [hv]
      refine ⟨h1, h2, ?_⟩
      by_cases c : p.tmod q < 0
      · rw [if_pos c] at h; right; omega
      · rw [if_neg c] at h; left; omega
    · exact .inr (.inl ⟨c1, by omega⟩)
  · exact .inl (by omega)

set_option maxRecDepth 100000 in
set_option maxHeartbeats 4000000 in
theorem roundsWalk (a0 : Option Addr) (len0 cap0 : Nat) (z0 : List Int) (w : World) (w0 : IsRow .u8 w a0 len0 cap0 z0) :
    Calls Try.prog 3 #[.slice a0 len0 cap0] w fun e w' => e = .returned (.bool true) ∧ Below w.heap.size w w' := by
  have hb := w0.bytes8
  by_cases hbig : 1048576 < len0
  · have hbig' : (1048576 : Int) < (len0 : Int) := by omega
    go_enter Try.func3, Try.ntmps3
    go_wp2
    go_ret
    exact ⟨rfl, Below.refl _ _⟩
  have hbig' : (len0 : Int) ≤ 1048576 := by omega
  have hb1 : decide ((1048576 : Int) < (len0 : Int)) = false := by simp; omega
  clear w0
  have HB := Lib.hid hb
  clear hb
  go_enter Try.func3, Try.ntmps3
  go_wp2_with (go_at_call 10; go_in)
  refine (drawCeil a0 len0 cap0 _ HB.out (by omega)).mono ?_
  rintro e w1 ⟨⟨a, b, rfl, ha, hb⟩, hw1⟩
  have HB1 := Lib.hid (HB.out.next hw1)
  go_wp2_with fail
  refine (drawMod a0 len0 cap0 _ HB1.out (by omega)).mono ?_
  rintro e w2 ⟨⟨p, q, rfl, hp, hq⟩, hw2⟩
  have HB2 := Lib.hid (HB1.out.next hw2)
  go_wp2_with fail
  refine (drawMin a0 len0 cap0 _ HB2.out (by omega)).mono ?_
  rintro e w3 ⟨⟨x, y, rfl, hx, hy⟩, hw3⟩
  have HB3 := Lib.hid (HB2.out.next hw3)
  go_wp2_with fail
  refine (drawInRange a0 len0 cap0 _ HB3.out (by omega)).mono ?_
  rintro e w4 ⟨⟨n, lo, hi, rfl⟩, hw4⟩
  go_wp2_with fail
  refine (implCeil a b _ ha hb).mono ?_
  rintro e w5 ⟨rfl, rfl⟩
  go_wp2_with fail
  refine (implMod p q _ hp hq).mono ?_
  rintro e w6 ⟨rfl, rfl⟩
  have HA := ceil_cases a b
  have HM := mod_cases p q
  go_wp2_with fail
  refine (specCeil a b _ ha hb).mono ?_
  rintro e w7 ⟨rfl, rfl⟩
  go_wp2_with fail
  refine (specMod p q _ hp hq).mono ?_
  rintro e w8 ⟨rfl, rfl⟩
  go_wp2_with fail
  refine (implMin x y _).mono ?_
  rintro e w9 ⟨rfl, hw9⟩
  go_wp2_with fail
  refine (specMin x y _).mono ?_
  rintro e w10 ⟨rfl, hw10⟩
  go_wp2_with fail
  refine (implMax x y _).mono ?_
  rintro e w11 ⟨rfl, hw11⟩
  go_wp2_with fail
  refine (specMax x y _).mono ?_
  rintro e w12 ⟨rfl, hw12⟩
  go_wp2_with fail
  refine (implInRange n lo hi _).mono ?_
  rintro e w13 ⟨rfl, rfl⟩
  go_wp2_with fail
  refine (specInRange n lo hi _).mono ?_
  rintro e w14 ⟨rfl, rfl⟩
  have HW := Lib.hid (Below.seq (Below.seq (Below.seq (Below.seq (Below.seq (Below.seq (Below.seq hw1 hw2) hw3) hw4) hw9) hw10) hw11) hw12)
  clear hw1 hw2 hw3 hw4 hw9 hw10 hw11 hw12 ha hb hx hy
  obtain ⟨hp1, hp2⟩ := hp
  obtain ⟨hq1, hq2⟩ := hq
  have HI := Lib.hid (show (inV n lo hi == inV n lo hi) = true by simp)
  generalize hd : ceilV a b = d at *
  clear hd
  generalize hr : modV p q = r at *
  clear hr
  have fin : ∀ (u : World) (k : Ending), k = .returned (.bool true) → (k = Ending.returned (.bool true) ∧ True) := fun _ _ h => ⟨h, trivial⟩
  clear fin
  rcases HM with hM | ⟨hM1, hM2⟩ | ⟨hM1, hM2, hM3, hM4, hM5 | ⟨hM5, hM6⟩⟩
  · skip
    rcases HA with hA | ⟨hA1, hA2⟩ | ⟨hA1, hA2, hA3⟩ | ⟨hA1, hA2, hA3, hA4⟩ | ⟨hA1, hA2, hA3, hA4, hA5, hA6, hA7, hA8⟩
    · go_wp2_with fail
      go_ret
      exact ⟨rfl, HW.out⟩
    · have k1 : decide (a ≤ (1000000000000 : Int)) = false := by simp; omega
      go_wp2_with fail
      go_ret
      exact ⟨rfl, HW.out⟩
    · have k1 : decide (a ≤ (1000000000000 : Int)) = true := by simp; omega
      have k2 : decide ((1 : Int) ≤ b) = false := by simp; omega
      go_wp2_with fail
      go_ret
      exact ⟨rfl, HW.out⟩
    · have k1 : decide (a ≤ (1000000000000 : Int)) = true := by simp; omega
      have k2 : decide ((1 : Int) ≤ b) = true := by simp; omega
      have k3 : decide (b ≤ (1000000000000 : Int)) = false := by simp; omega
      go_wp2_with fail
      go_ret
      exact ⟨rfl, HW.out⟩
    · by_cases h0 : 0 < d
      · have h8 := hA8 h0
        have h9 : 0 ≤ (d - 1) * b := Int.mul_nonneg (by omega) (by omega)
        clear hA5 hA8
        have k1 : decide (a ≤ (1000000000000 : Int)) = true := by simp; omega
        have k2 : decide ((1 : Int) ≤ b) = true := by simp; omega
        have k3 : decide (b ≤ (1000000000000 : Int)) = true := by simp; omega
        have k4 : decide (a ≤ (d - 1) * b) = false := by simp; omega
        have k5 : (d == 0) = false := by simp; omega
        go_wp2_with fail
        go_ret
        exact ⟨rfl, HW.out⟩
      · have h1 : ¬ 0 < a := fun h => h0 (hA5 h)
        have h2 : d = 0 := by omega
        subst h2
        clear hA5 hA8
        have k1 : decide (a ≤ (1000000000000 : Int)) = true := by simp; omega
        have k2 : decide ((1 : Int) ≤ b) = true := by simp; omega
        have k3 : decide (b ≤ (1000000000000 : Int)) = true := by simp; omega
        have k4 : decide ((0 : Int) < a) = false := by simp; omega
        go_wp2_with fail
        go_ret
        exact ⟨rfl, HW.out⟩
  · have m1 : decide ((1000000000000 : Int) < q) = true := by simp; omega
    rcases HA with hA | ⟨hA1, hA2⟩ | ⟨hA1, hA2, hA3⟩ | ⟨hA1, hA2, hA3, hA4⟩ | ⟨hA1, hA2, hA3, hA4, hA5, hA6, hA7, hA8⟩
    · go_wp2_with fail
      go_ret
      exact ⟨rfl, HW.out⟩
    · have k1 : decide (a ≤ (1000000000000 : Int)) = false := by simp; omega
      go_wp2_with fail
      go_ret
      exact ⟨rfl, HW.out⟩
    · have k1 : decide (a ≤ (1000000000000 : Int)) = true := by simp; omega
      have k2 : decide ((1 : Int) ≤ b) = false := by simp; omega
      go_wp2_with fail
      go_ret
      exact ⟨rfl, HW.out⟩
    · have k1 : decide (a ≤ (1000000000000 : Int)) = true := by simp; omega
      have k2 : decide ((1 : Int) ≤ b) = true := by simp; omega
      have k3 : decide (b ≤ (1000000000000 : Int)) = false := by simp; omega
      go_wp2_with fail
      go_ret
      exact ⟨rfl, HW.out⟩
    · by_cases h0 : 0 < d
      · have h8 := hA8 h0
        have h9 : 0 ≤ (d - 1) * b := Int.mul_nonneg (by omega) (by omega)
        clear hA5 hA8
        have k1 : decide (a ≤ (1000000000000 : Int)) = true := by simp; omega
        have k2 : decide ((1 : Int) ≤ b) = true := by simp; omega
        have k3 : decide (b ≤ (1000000000000 : Int)) = true := by simp; omega
        have k4 : decide (a ≤ (d - 1) * b) = false := by simp; omega
        have k5 : (d == 0) = false := by simp; omega
        go_wp2_with fail
        go_ret
        exact ⟨rfl, HW.out⟩
      · have h1 : ¬ 0 < a := fun h => h0 (hA5 h)
        have h2 : d = 0 := by omega
        subst h2
        clear hA5 hA8
        have k1 : decide (a ≤ (1000000000000 : Int)) = true := by simp; omega
        have k2 : decide ((1 : Int) ≤ b) = true := by simp; omega
        have k3 : decide (b ≤ (1000000000000 : Int)) = true := by simp; omega
        have k4 : decide ((0 : Int) < a) = false := by simp; omega
        go_wp2_with fail
        go_ret
        exact ⟨rfl, HW.out⟩
  · have m1 : decide ((1000000000000 : Int) < q) = false := by simp; omega
    have m2 : decide (r < q) = true := by simp; omega
    have m3 : (p.tmod q == r) = true := by simp; omega
    clear hM5
    rcases HA with hA | ⟨hA1, hA2⟩ | ⟨hA1, hA2, hA3⟩ | ⟨hA1, hA2, hA3, hA4⟩ | ⟨hA1, hA2, hA3, hA4, hA5, hA6, hA7, hA8⟩
    · go_wp2_with fail
      go_ret
      exact ⟨rfl, HW.out⟩
    · have k1 : decide (a ≤ (1000000000000 : Int)) = false := by simp; omega
      go_wp2_with fail
      go_ret
      exact ⟨rfl, HW.out⟩
    · have k1 : decide (a ≤ (1000000000000 : Int)) = true := by simp; omega
      have k2 : decide ((1 : Int) ≤ b) = false := by simp; omega
      go_wp2_with fail
      go_ret
      exact ⟨rfl, HW.out⟩
    · have k1 : decide (a ≤ (1000000000000 : Int)) = true := by simp; omega
      have k2 : decide ((1 : Int) ≤ b) = true := by simp; omega
      have k3 : decide (b ≤ (1000000000000 : Int)) = false := by simp; omega
      go_wp2_with fail
      go_ret
      exact ⟨rfl, HW.out⟩
    · by_cases h0 : 0 < d
      · have h8 := hA8 h0
        have h9 : 0 ≤ (d - 1) * b := Int.mul_nonneg (by omega) (by omega)
        clear hA5 hA8
        have k1 : decide (a ≤ (1000000000000 : Int)) = true := by simp; omega
        have k2 : decide ((1 : Int) ≤ b) = true := by simp; omega
        have k3 : decide (b ≤ (1000000000000 : Int)) = true := by simp; omega
        have k4 : decide (a ≤ (d - 1) * b) = false := by simp; omega
        have k5 : (d == 0) = false := by simp; omega
        go_wp2_with fail
        go_ret
        exact ⟨rfl, HW.out⟩
      · have h1 : ¬ 0 < a := fun h => h0 (hA5 h)
        have h2 : d = 0 := by omega
        subst h2
        clear hA5 hA8
        have k1 : decide (a ≤ (1000000000000 : Int)) = true := by simp; omega
        have k2 : decide ((1 : Int) ≤ b) = true := by simp; omega
        have k3 : decide (b ≤ (1000000000000 : Int)) = true := by simp; omega
        have k4 : decide ((0 : Int) < a) = false := by simp; omega
        go_wp2_with fail
        go_ret
        exact ⟨rfl, HW.out⟩
  · have m1 : decide ((1000000000000 : Int) < q) = false := by simp; omega
    have m2 : decide (r < q) = true := by simp; omega
    have m3 : (p.tmod q == r) = false := by simp; omega
    have m4 : (p.tmod q == r - q) = true := by simp; omega
    clear hM5 hM6
    rcases HA with hA | ⟨hA1, hA2⟩ | ⟨hA1, hA2, hA3⟩ | ⟨hA1, hA2, hA3, hA4⟩ | ⟨hA1, hA2, hA3, hA4, hA5, hA6, hA7, hA8⟩
    · go_wp2_with fail
      go_ret
      exact ⟨rfl, HW.out⟩
    · have k1 : decide (a ≤ (1000000000000 : Int)) = false := by simp; omega
      go_wp2_with fail
      go_ret
      exact ⟨rfl, HW.out⟩
    · have k1 : decide (a ≤ (1000000000000 : Int)) = true := by simp; omega
      have k2 : decide ((1 : Int) ≤ b) = false := by simp; omega
      go_wp2_with fail
      go_ret
      exact ⟨rfl, HW.out⟩
    · have k1 : decide (a ≤ (1000000000000 : Int)) = true := by simp; omega
      have k2 : decide ((1 : Int) ≤ b) = true := by simp; omega
      have k3 : decide (b ≤ (1000000000000 : Int)) = false := by simp; omega
      go_wp2_with fail
      go_ret
      exact ⟨rfl, HW.out⟩
    · by_cases h0 : 0 < d
      · have h8 := hA8 h0
        have h9 : 0 ≤ (d - 1) * b := Int.mul_nonneg (by omega) (by omega)
        clear hA5 hA8
        have k1 : decide (a ≤ (1000000000000 : Int)) = true := by simp; omega
        have k2 : decide ((1 : Int) ≤ b) = true := by simp; omega
        have k3 : decide (b ≤ (1000000000000 : Int)) = true := by simp; omega
        have k4 : decide (a ≤ (d - 1) * b) = false := by simp; omega
        have k5 : (d == 0) = false := by simp; omega
        go_wp2_with fail
        go_ret
        exact ⟨rfl, HW.out⟩
      · have h1 : ¬ 0 < a := fun h => h0 (hA5 h)
        have h2 : d = 0 := by omega
        subst h2
        clear hA5 hA8
        have k1 : decide (a ≤ (1000000000000 : Int)) = true := by simp; omega
        have k2 : decide ((1 : Int) ≤ b) = true := by simp; omega
        have k3 : decide (b ≤ (1000000000000 : Int)) = true := by simp; omega
        have k4 : decide ((0 : Int) < a) = false := by simp; omega
        go_wp2_with fail
        go_ret
        exact ⟨rfl, HW.out⟩
end Go.Proofs.Ytkplenmjmnaniaa
