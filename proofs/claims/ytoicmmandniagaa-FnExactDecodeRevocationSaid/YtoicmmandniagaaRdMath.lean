
/- Reading the groups of seven bits of a number. -/
import Derived.Test.YtoicmmandniagaaVarMath
namespace Go.Proofs.Ytoicmmandniagaa
open Go Go.RowKit
def rdG (zs : List Int) (p : Nat) : Nat → Nat → Nat → Option (Nat × Nat)
  | 0, _, _ => none
  | f + 1, k, acc =>
    if p + k < zs.length then
      if 128 ≤ (zs.getD (p + k) 0).toNat then rdG zs p f (k + 1) (acc + (zs.getD (p + k) 0).toNat % 128 * 128 ^ k)
      else if (0 < k ∧ (zs.getD (p + k) 0).toNat = 0) ∨ 1000000000000 < acc + (zs.getD (p + k) 0).toNat % 128 * 128 ^ k then none
      else some (acc + (zs.getD (p + k) 0).toNat % 128 * 128 ^ k, p + k + 1)
    else none
/-- What is read at an offset: the number and the offset behind it. -/
def rdAt (zs : List Int) (at_ : Int) : Option (Nat × Nat) := if 0 ≤ at_ then rdG zs at_.toNat 6 0 0 else none
def rdV : Option (Nat × Nat) → Value
  | some (n, m) => .tuple #[.int .i64 n, .int .i64 m, .bool true]
  | none => .tuple #[.int .i64 0, .int .i64 0, .bool false]
theorem rdG_more {zs : List Int} {p f k acc : Nat} {z : Nat} (h : p + k < zs.length) (hz : (zs.getD (p + k) 0).toNat = z) (hb : 128 ≤ z) :
    rdG zs p (f + 1) k acc = rdG zs p f (k + 1) (acc + z % 128 * 128 ^ k) := by
  rw [rdG, if_pos h, hz, if_pos hb]
theorem rdG_bad {zs : List Int} {p f k acc : Nat} {z : Nat} (h : p + k < zs.length) (hz : (zs.getD (p + k) 0).toNat = z) (hb : z < 128) (hc : (0 < k ∧ z = 0) ∨ 1000000000000 < acc + z % 128 * 128 ^ k) :
    rdG zs p (f + 1) k acc = none := by
  rw [rdG, if_pos h, hz, if_neg (by omega), if_pos hc]
theorem rdG_good {zs : List Int} {p f k acc : Nat} {z : Nat} (h : p + k < zs.length) (hz : (zs.getD (p + k) 0).toNat = z) (hb : z < 128) (hc : ¬ ((0 < k ∧ z = 0) ∨ 1000000000000 < acc + z % 128 * 128 ^ k)) :
    rdG zs p (f + 1) k acc = some (acc + z % 128 * 128 ^ k, p + k + 1) := by
  rw [rdG, if_pos h, hz, if_neg (by omega), if_neg hc]
theorem rdG_out {zs : List Int} {p f k acc : Nat} (h : zs.length ≤ p + k) : rdG zs p f k acc = none := by
  cases f with
  | zero => rfl
  | succ f => rw [rdG, if_neg (by omega)]
theorem rdG_bd : ∀ (f : Nat) {zs : List Int} {p k acc n m : Nat}, rdG zs p f k acc = some (n, m) → n ≤ 1000000000000 ∧ p + k < m ∧ m ≤ zs.length
  | 0, _, _, _, _, _, _, h => by simp [rdG] at h
  | f + 1, zs, p, k, acc, n, m, h => by
    rw [rdG] at h
    split at h
    · split at h
      · have := rdG_bd f h; omega
      · split at h
        · cases h
        · simp only [Option.some.injEq, Prod.mk.injEq] at h
          omega
    · cases h
theorem rdAt_bd {zs : List Int} {a : Int} {n m : Nat} (h : rdAt zs a = some (n, m)) : n ≤ 1000000000000 ∧ 0 ≤ a ∧ a < (m : Int) ∧ m ≤ zs.length := by
  unfold rdAt at h
  split at h
  · have := rdG_bd 6 h; omega
  · cases h
theorem pow128_le (k : Nat) (h : k ≤ 6) : 128 ^ k ≤ 4398046511104 ∧ 1 ≤ 128 ^ k :=
  ⟨Nat.le_trans (Nat.pow_le_pow_right (by decide) h) (by decide), Nat.one_le_pow _ _ (by decide)⟩
theorem group_lt {acc z k : Nat} (h : acc < 128 ^ k) : acc + z % 128 * 128 ^ k < 128 ^ (k + 1) := by
  have h1 : z % 128 ≤ 127 := by omega
  have h2 := Nat.mul_le_mul_right (128 ^ k) h1
  rw [Nat.pow_succ]
  omega
theorem bits_or_nat (x y : Nat) (hx : x < 9223372036854775808) (hy : y < 9223372036854775808) : bits .or .i64 (x : Int) (y : Int) = ((x ||| y : Nat) : Int) := by
  simp only [bits, BitVec.toNat_or, BitVec.ofInt_natCast, BitVec.toNat_ofNat]
  have hb : (2 : Nat) ^ IntKind.i64.bits = 18446744073709551616 := by decide
  rw [hb, Nat.mod_eq_of_lt (by omega), Nat.mod_eq_of_lt (by omega)]
  have : x ||| y < 2 ^ 63 := Nat.or_lt_two_pow (by omega) (by omega)
  rw [IntKind.wrap_i64]
  omega
theorem group_or {acc y k q t : Nat} (hk : k ≤ 5) (hq : q = 128 ^ k) (ha : acc < q) (ht : t = y % 128 * q) :
    bits .or .i64 (acc : Int) (wrap64 (bits .and .i64 (y : Int) 127 * 2 ^ (7 * k))) = ((acc + t : Nat) : Int) := by
  have hp := (pow128_le k (by omega)).1
  rw [← hq] at hp
  have h2 : (2 : Nat) ^ (7 * k) = q := by rw [hq, Nat.pow_mul]
  have h2i : (2 : Int) ^ (7 * k) = (q : Int) := by rw [← h2]; simp
  have htb : t ≤ 127 * 4398046511104 := by rw [ht]; exact Nat.mul_le_mul (by omega) hp
  have e1 : bits .and .i64 (y : Int) 127 * 2 ^ (7 * k) = (t : Int) := by rw [and127, h2i, ht]; simp
  have e2 : wrap64 (t : Int) = (t : Int) := by unfold wrap64; omega
  rw [e1, e2, bits_or_nat _ _ (by omega) (by omega)]
  have e3 : acc ||| t = acc + t := by
    have := Nat.two_pow_add_eq_or_of_lt (i := 7 * k) (b := acc) (by rw [h2]; exact ha) (y % 128)
    rw [h2, Nat.mul_comm, ← ht] at this
    rw [Nat.or_comm, ← this, Nat.add_comm]
  rw [e3]
end Go.Proofs.Ytoicmmandniagaa
