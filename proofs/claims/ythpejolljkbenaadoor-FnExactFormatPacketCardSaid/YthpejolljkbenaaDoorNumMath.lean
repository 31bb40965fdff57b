
/- Plain facts on decimal numerals: no program is named here. -/
import Derived.Lib.ItoaNum
import Derived.Lib.ItoaLen
import Derived.IntWalk
namespace Go.Proofs.YthpejolljkbenaaDoor.Num
open Go Go.Lib

/-- The digits of v, none for 0. -/
def pre (v : Nat) : List UInt8 := if v = 0 then [] else decDigits v

theorem pre_zero : pre 0 = [] := rfl
theorem pre_pos {v : Nat} (h : v ≠ 0) : pre v = decDigits v := if_neg h
theorem pre_step {v : Nat} (h : v ≠ 0) : pre v = pre (v / 10) ++ [UInt8.ofNat (48 + v % 10)] := by
  rw [pre_pos h]
  by_cases hs : v < 10
  · rw [decDigits, dif_pos hs, show v / 10 = 0 by omega, pre_zero, Nat.mod_eq_of_lt hs]; rfl
  · rw [decDigits, dif_neg hs, pre_pos (by omega)]

theorem len_le {v : Nat} (h : v < 18446744073709551616) : (decDigits v).length ≤ 20 := by
  rw [decDigits_length]; exact nDigits_le20 v h

/-- One round of the loop: the last digit goes ahead of what stands there. -/
theorem round {v u : Nat} {s : List UInt8} (h : v ≠ 0) (hs : pre v ++ s = decDigits u) : pre (v / 10) ++ (UInt8.ofNat (48 + v % 10) :: s) = decDigits u := by
  rw [← hs, pre_step h]; simp

theorem round_len {v u : Nat} {s : List UInt8} (hu : u < 18446744073709551616) (hs : pre v ++ s = decDigits u) : s.length ≤ 20 := by
  have := len_le hu; rw [← hs] at this; simp at this; omega

end Go.Proofs.YthpejolljkbenaaDoor.Num
