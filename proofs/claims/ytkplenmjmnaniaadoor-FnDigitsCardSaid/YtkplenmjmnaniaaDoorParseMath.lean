/- Plain facts on what ParseInt accepts: no program is named here. -/
import Derived.Test.YtkplenmjmnaniaaDoorNumMath
namespace Go.Proofs.YtkplenmjmnaniaaDoor.Num
open Go Go.Lib

def isDig (c : UInt8) : Prop := 48 ≤ c.toNat ∧ c.toNat ≤ 57
instance : DecidablePred isDig := fun c => by unfold isDig; infer_instance
/-- The number that a list of digits stands for. -/
def val (l : List UInt8) : Nat := l.foldl (fun n c => 10 * n + (c.toNat - 48)) 0
theorem val_nil : val [] = 0 := rfl
theorem val_snoc (l : List UInt8) (c : UInt8) : val (l ++ [c]) = 10 * val l + (c.toNat - 48) := by unfold val; simp

/-- What ParseInt accepts: digits, at least one, no leading zero, at most 10^12. -/
def good (l : List UInt8) : Prop := l ≠ [] ∧ ¬ (1 < l.length ∧ l.head? = some 48) ∧ (∀ c ∈ l, isDig c) ∧ val l ≤ 1000000000000

theorem ofNat_dig {c : UInt8} (h : isDig c) : UInt8.ofNat (48 + (c.toNat - 48)) = c := by
  obtain ⟨h1, h2⟩ := h
  apply UInt8.toNat.inj
  simp; omega

theorem snoc_ind {P : List UInt8 → Prop} (h0 : P []) (h1 : ∀ l c, P l → P (l ++ [c])) : ∀ l, P l := by
  intro l
  have : ∀ m : List UInt8, P m.reverse := by
    intro m
    induction m with
    | nil => exact h0
    | cons a m ih => rw [List.reverse_cons]; exact h1 _ _ ih
  have h := this l.reverse
  rwa [List.reverse_reverse] at h

theorem val_pos : ∀ l : List UInt8, (∀ c ∈ l, isDig c) → l ≠ [] → l.head? ≠ some 48 → 1 ≤ val l ∧ decDigits (val l) = l ∧ 10 ^ (l.length - 1) ≤ val l := by
  refine snoc_ind ?_ ?_
  · intro _ h; exact absurd rfl h
  · intro l c ih hd _ hh
    have hc : isDig c := hd c (by simp)
    have hc' := hc
    obtain ⟨c1, c2⟩ := hc'
    rw [val_snoc]
    by_cases hl : l = []
    · subst hl
      have hne : c.toNat ≠ 48 := by
        intro h; apply hh; simp; exact UInt8.toNat.inj h
      simp only [val_nil, List.nil_append]
      refine ⟨by omega, ?_, by simp; omega⟩
      rw [show 10 * 0 + (c.toNat - 48) = c.toNat - 48 by omega, decDigits_one (by omega), ofNat_dig hc]
    · have hh' : l.head? ≠ some 48 := by
        intro h; apply hh
        cases l with
        | nil => exact absurd rfl hl
        | cons a m => simpa using h
      obtain ⟨i1, i2, i3⟩ := ih (fun x hx => hd x (by simp [hx])) hl hh'
      refine ⟨by omega, ?_, ?_⟩
      · rw [decDigits, dif_neg (by omega), show (10 * val l + (c.toNat - 48)) / 10 = val l by omega, show (10 * val l + (c.toNat - 48)) % 10 = c.toNat - 48 by omega, ofNat_dig hc, i2]
      · have : 1 ≤ l.length := by cases l with
          | nil => exact absurd rfl hl
          | cons a m => simp
        rw [List.length_append, show l.length + [c].length - 1 = (l.length - 1) + 1 by simp; omega, Nat.pow_succ]
        omega

theorem head_dec (v : Nat) : 10 ≤ v → (decDigits v).head? ≠ some 48 := by
  induction v using Nat.strongRecOn with
  | _ v ih =>
    intro h
    rw [decDigits, dif_neg (by omega)]
    by_cases hs : v / 10 < 10
    · rw [decDigits_one hs]
      have hv : v / 10 ≠ 0 := by omega
      simp
      intro h
      have := congrArg UInt8.toNat h
      simp at this; omega
    · have := ih (v / 10) (by omega) (by omega)
      cases hd : decDigits (v / 10) with
      | nil => have := nDigits_pos (v / 10); rw [← decDigits_length, hd] at this; simp at this
      | cons a m => rw [hd] at this; simpa using this

/-- A list that is accepted has at most 13 digits and is the numeral of its number. -/
theorem good_numeral {l : List UInt8} (h : good l) : 1 ≤ l.length ∧ l.length ≤ 13 ∧ decDigits (val l) = l := by
  obtain ⟨h1, h2, h3, h4⟩ := h
  have hl : 1 ≤ l.length := by cases l with
    | nil => exact absurd rfl h1
    | cons a m => simp
  by_cases hz : l.head? = some 48
  · have hlen : l.length = 1 := by
      rcases Nat.lt_or_ge 1 l.length with h | h
      · exact absurd ⟨h, hz⟩ h2
      · omega
    obtain ⟨a, rfl⟩ := List.length_eq_one_iff.1 hlen
    simp at hz
    subst hz
    exact ⟨by simp, by simp, by rw [show val [48] = 0 from rfl, decDigits_one (by omega)]; rfl⟩
  · obtain ⟨p1, p2, p3⟩ := val_pos l h3 h1 hz
    refine ⟨hl, ?_, p2⟩
    rcases Nat.lt_or_ge 13 l.length with h | h
    · have : 10 ^ 13 ≤ 10 ^ (l.length - 1) := Nat.pow_le_pow_right (by omega) (by omega)
      omega
    · exact h

/-- And the other way round. -/
theorem numeral_good {l : List UInt8} (h0 : 1 ≤ l.length) (hd : ∀ c ∈ l, isDig c) (h4 : val l ≤ 1000000000000) (hn : decDigits (val l) = l) : good l := by
  refine ⟨by intro h; rw [h] at h0; simp at h0, ?_, hd, h4⟩
  rintro ⟨h1, h2⟩
  by_cases hv : val l < 10
  · have := decDigits_one hv
    rw [hn] at this
    rw [this] at h1; simp at h1
  · have := head_dec (val l) (by omega)
    rw [hn] at this
    exact this h2

/-- The two results of ParseInt. -/
noncomputable def pOk (l : List UInt8) : Bool := by classical exact decide (good l)
noncomputable def pVal (l : List UInt8) : Int := if pOk l = true then (val l : Int) else 0
theorem pOk_yes {l : List UInt8} (h : good l) : pOk l = true := by unfold pOk; simpa using h
theorem pOk_no {l : List UInt8} (h : ¬ good l) : pOk l = false := by unfold pOk; simpa using h
theorem pVal_yes {l : List UInt8} (h : good l) : pVal l = val l := by unfold pVal; rw [if_pos (pOk_yes h)]
theorem pVal_no {l : List UInt8} (h : ¬ good l) : pVal l = 0 := by unfold pVal; rw [pOk_no h]; rfl

/-- Over the first digits the number is at most that of all. -/
theorem val_mono (l m : List UInt8) : val l ≤ val (l ++ m) := by
  revert m
  refine snoc_ind ?_ ?_
  · simp
  · intro m c ih
    rw [← List.append_assoc, val_snoc]; omega

theorem val_lt (l : List UInt8) : (∀ c ∈ l, isDig c) → val l < 10 ^ l.length := by
  revert l
  refine snoc_ind ?_ ?_
  · intro _; simp [val_nil]
  · intro l c ih hd
    have hc : isDig c := hd c (by simp)
    obtain ⟨c1, c2⟩ := hc
    have := ih (fun x hx => hd x (by simp [hx]))
    rw [val_snoc, List.length_append, show l.length + [c].length = l.length + 1 from rfl, Nat.pow_succ]
    omega

end Go.Proofs.YtkplenmjmnaniaaDoor.Num
