
/- The groups of seven bits of a number. -/
import Derived.Test.YtdlafigjkefllaaRow
namespace Go.Proofs.Ytdlafigjkefllaa
open Go Go.RowKit
def vlist (n : Nat) : List Int := if n < 128 then [(n : Int)] else ((n % 128 + 128 : Nat) : Int) :: vlist (n / 128)
  termination_by n
  decreasing_by omega
theorem vlist_small {n : Nat} (h : n < 128) : vlist n = [(n : Int)] := by rw [vlist]; simp [h]
theorem vlist_big {n : Nat} (h : 128 ≤ n) : vlist n = ((n % 128 + 128 : Nat) : Int) :: vlist (n / 128) := by
  rw [vlist, if_neg (by omega)]
theorem vlist_len : ∀ (f n : Nat), n < 128 ^ (f + 1) → (vlist n).length ≤ f + 1 ∧ 1 ≤ (vlist n).length
  | 0, n, h => by rw [vlist_small (by simpa using h)]; simp
  | f + 1, n, h => by
    by_cases hs : n < 128
    · rw [vlist_small hs]; simp
    · rw [vlist_big (by omega)]
      have := vlist_len f (n / 128) (by rw [Nat.div_lt_iff_lt_mul (by decide)]; rw [Nat.pow_succ] at h; exact h)
      simp only [List.length_cons]
      omega
theorem vlist_len6 {n : Nat} (h : n ≤ 1000000000000) : (vlist n).length ≤ 6 ∧ 1 ≤ (vlist n).length := vlist_len 5 n (by omega)
theorem vlist_fit : ∀ (n : Nat), ∀ z ∈ vlist n, 0 ≤ z ∧ z ≤ 255
  | n => by
    by_cases hs : n < 128
    · rw [vlist_small hs]; intro z hz; simp at hz; omega
    · rw [vlist_big (by omega)]
      intro z hz
      rcases List.mem_cons.1 hz with rfl | hz
      · omega
      · exact vlist_fit (n / 128) z hz
  termination_by n => n
  decreasing_by omega
/-- What AppendVarint adds. -/
def vb (n : Int) : List Int := if 0 ≤ n ∧ n ≤ 1000000000000 then vlist n.toNat else []
theorem vb_len (n : Int) : (vb n).length ≤ 6 := by
  unfold vb
  split
  · exact (vlist_len6 (by omega)).1
  · simp
theorem vb_fit (n : Int) : ∀ z ∈ vb n, 0 ≤ z ∧ z ≤ 255 := by
  unfold vb
  split
  · exact vlist_fit _
  · simp
theorem vb_in {n : Nat} (h : n ≤ 1000000000000) : vb n = vlist n := by
  unfold vb
  rw [if_pos (by omega)]
  simp
theorem bits_or128 (x : Nat) (h : x < 128) : bits .or .i64 (x : Int) 128 = ((x + 128 : Nat) : Int) := by
  have : ∀ y : Fin 128, bits .or .i64 ((y.val : Nat) : Int) 128 = ((y.val + 128 : Nat) : Int) := by decide +kernel
  exact this ⟨x, h⟩
theorem and127 (x : Nat) : bits .and .i64 (x : Int) 127 = ((x % 128 : Nat) : Int) := by
  have := and_mask 7 (by decide) (x : Int)
  simpa using this
theorem group_of (m : Nat) : bits .or .i64 (bits .and .i64 (m : Int) 127) 128 % 256 = ((m % 128 + 128 : Nat) : Int) := by
  rw [and127, bits_or128 _ (by omega)]
  omega
end Go.Proofs.Ytdlafigjkefllaa
