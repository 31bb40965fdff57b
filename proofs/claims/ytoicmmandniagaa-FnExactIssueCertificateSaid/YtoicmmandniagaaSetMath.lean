
/- Bits of small sets. -/
import Derived.Test.YtoicmmandniagaaBase
namespace Go.Proofs.Ytoicmmandniagaa
open Go Go.RowKit
theorem bits_nat (x y : Nat) (hx : x < 9223372036854775808) (hy : y < 9223372036854775808) : bits .and .i64 (x : Int) (y : Int) = ((x &&& y : Nat) : Int) := by
  simp only [bits, BitVec.toNat_and, BitVec.ofInt_natCast, BitVec.toNat_ofNat]
  have hb : (2 : Nat) ^ IntKind.i64.bits = 18446744073709551616 := by decide
  rw [hb, Nat.mod_eq_of_lt (by omega), Nat.mod_eq_of_lt (by omega)]
  have : x &&& y ≤ x := Nat.and_le_left
  rw [IntKind.wrap_i64]
  omega
theorem and_pow (x i : Nat) : x &&& 2 ^ i = (x.testBit i).toNat * 2 ^ i := by
  apply Nat.eq_of_testBit_eq
  intro j
  rw [Nat.testBit_and, Nat.testBit_two_pow]
  cases h : x.testBit i
  · by_cases e : i = j
    · subst e; simp [h]
    · simp [e]
  · by_cases e : i = j
    · subst e; simp [h, Nat.testBit_two_pow_self]
    · simp [e, Nat.testBit_two_pow_of_ne e]
theorem pow_le (i : Nat) (hi : i ≤ 15) : 2 ^ i ≤ 32768 := Nat.pow_le_pow_right (n := 2) (by decide) hi
theorem has_bit_nat (x i : Nat) (hx : x ≤ 65535) (hi : i ≤ 15) :
    (bits .and .i64 (x : Int) ((2 ^ i : Nat) : Int) != 0) = (bits .and .i64 ((x / 2 ^ i : Nat) : Int) ((1 : Nat) : Int) == 1) := by
  have hp := pow_le i hi
  have h1 : x / 2 ^ i ≤ x := Nat.div_le_self _ _
  rw [bits_nat _ _ (by omega) (by omega), bits_nat _ _ (by omega) (by omega), and_pow, Nat.and_one_is_mod, Nat.testBit_eq_decide_div_mod_eq]
  have hm : x / 2 ^ i % 2 = 0 ∨ x / 2 ^ i % 2 = 1 := by omega
  have hq : 2 ^ i ≠ 0 := by have := Nat.one_le_two_pow (n := i); omega
  rcases hm with h | h
  · simp [h]
  · rw [h]
    generalize 2 ^ i = p at hq
    simp [hq]
theorem wrap64_pow (i : Nat) (hi : i ≤ 15) : wrap64 (2 ^ i) = ((2 ^ i : Nat) : Int) := by
  have hp := pow_le i hi
  have e : ((2 : Int) ^ i) = ((2 ^ i : Nat) : Int) := by simp
  rw [e]
  unfold wrap64
  generalize 2 ^ i = p at hp
  omega
theorem has_bit {a0 a1 : Int} (c1 : 0 ≤ a0) (c2 : a0 ≤ 65535) (c3 : 0 ≤ a1) (c4 : a1 ≤ 15) :
    (bits .and .i64 a0 (wrap64 (2 ^ a1.toNat)) != 0) = (bits .and .i64 (a0 / 2 ^ a1.toNat) 1 == 1) := by
  obtain ⟨x, rfl⟩ := Int.eq_ofNat_of_zero_le c1
  obtain ⟨i, rfl⟩ := Int.eq_ofNat_of_zero_le c3
  have h := has_bit_nat x i (by omega) (by omega)
  rw [← wrap64_pow i (by omega)] at h
  simpa using h
end Go.Proofs.Ytoicmmandniagaa
