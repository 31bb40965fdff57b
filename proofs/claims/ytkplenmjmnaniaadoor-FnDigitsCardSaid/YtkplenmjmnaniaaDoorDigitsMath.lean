/- Plain facts: which numerals ParseInt accepts. -/
import Derived.Test.YtkplenmjmnaniaaDoorParseMath
import Derived.Lib.ItoaMem
namespace Go.Proofs.YtkplenmjmnaniaaDoor.Num
open Go Go.Lib

theorem dec_digits (u : Nat) : ∀ c ∈ decDigits u, isDig c := by
  induction u using Nat.strongRecOn with
  | _ u ih =>
    intro c hc
    by_cases h : u < 10
    · rw [decDigits_one h] at hc
      rw [List.mem_singleton.1 hc]
      unfold isDig
      simp; omega
    · rw [decDigits, dif_neg h] at hc
      rcases List.mem_append.1 hc with hc | hc
      · exact ih (u / 10) (by omega) c hc
      · rw [List.mem_singleton.1 hc]
        unfold isDig
        simp; omega

theorem val_dec (u : Nat) : val (decDigits u) = u := by
  induction u using Nat.strongRecOn with
  | _ u ih =>
    by_cases h : u < 10
    · rw [decDigits_one h, show [UInt8.ofNat (48 + u)] = [] ++ [UInt8.ofNat (48 + u)] from rfl, val_snoc, val_nil]
      simp; omega
    · rw [decDigits, dif_neg h, val_snoc, ih (u / 10) (by omega)]
      simp; omega

theorem good_dec {u : Nat} (h : u ≤ 1000000000000) : good (decDigits u) := by
  have hl : 1 ≤ (decDigits u).length := by rw [decDigits_length]; exact nDigits_pos u
  exact numeral_good hl (dec_digits u) (by rw [val_dec]; exact h) (by rw [val_dec])

theorem good_itoa (n : Int) : good (itoa n) ↔ 0 ≤ n ∧ n ≤ 1000000000000 := by
  by_cases hn : 0 ≤ n
  · obtain ⟨u, rfl⟩ := Int.eq_ofNat_of_zero_le hn
    rw [itoa_nonneg]
    constructor
    · intro h
      have := h.2.2.2
      rw [val_dec] at this
      omega
    · rintro ⟨_, h⟩
      exact good_dec (by omega)
  · constructor
    · intro h
      have : (45 : UInt8) ∈ itoa n := by unfold itoa; rw [if_pos (by omega)]; simp
      have hd := h.2.2.1 _ this
      unfold isDig at hd
      have e : (45 : UInt8).toNat = 45 := by decide
      omega
    · rintro ⟨h, _⟩
      exact absurd h hn

theorem ok_itoa (n : Int) : pOk (itoa n) = decide (0 ≤ n ∧ n ≤ 1000000000000) := by
  by_cases h : 0 ≤ n ∧ n ≤ 1000000000000
  · rw [pOk_yes ((good_itoa n).2 h)]; exact (decide_eq_true h).symm
  · rw [pOk_no (fun hg => h ((good_itoa n).1 hg))]; exact (decide_eq_false h).symm
theorem val_itoa {n : Int} (h0 : 0 ≤ n) (h1 : n ≤ 1000000000000) : pVal (itoa n) = n := by
  rw [pVal_yes ((good_itoa n).2 ⟨h0, h1⟩)]
  obtain ⟨u, rfl⟩ := Int.eq_ofNat_of_zero_le h0
  rw [itoa_nonneg, val_dec]
/-- What is accepted is the numeral of what is returned. -/
theorem itoa_val {l : List UInt8} (h : good l) : itoa (pVal l) = l := by
  rw [pVal_yes h, itoa_nonneg]; exact (good_numeral h).2.2
end Go.Proofs.YtkplenmjmnaniaaDoor.Num
