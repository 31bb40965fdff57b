
/- A row with one element turned; the first element that a test lets pass. -/
import Derived.Test.YtkmofhpipcodbaaAppR
namespace Go.Proofs.Ytkmofhpipcodbaa
open Go Go.RowKit
set_option linter.unusedVariables false
theorem flat_set {α : Type} [Inhabited α] {nc : Nat} {cell : α → Nat → Value} (zs : List α) (k j : Nat) (x : α) (hk : k < zs.length) : flat nc cell (zs.set k x) j = if j / nc = k then cell x (j % nc) else flat nc cell zs j := by
  unfold flat
  rw [List.getD_eq_getElem?_getD, List.getElem?_set]
  by_cases h : k = j / nc
  · rw [if_pos h, if_pos (h ▸ hk), if_pos h.symm]; rfl
  · rw [if_neg h, if_neg (Ne.symm h), List.getD_eq_getElem?_getD]
theorem OwnR.upd {α : Type} [Inhabited α] {nc : Nat} {cell : α → Nat → Value} {w w' : World} {lo hi n k b off : Nat} {zs : List α} {x : α} (h : OwnR nc cell w lo hi (some ⟨b, off, none⟩) n zs) (h0 : 0 < nc) (hk : k < n)
    (hs : ∀ j, j < nc → w'.cell? ⟨b, off + (k * nc + j), none⟩ = some (cell x j)) (hf : ∀ p, w'.frozen? p = w.frozen? p)
    (ho : ∀ j, j < n * nc → j / nc ≠ k → w'.cell? ⟨b, off + j, none⟩ = w.cell? ⟨b, off + j, none⟩) : OwnR nc cell w' lo hi (some ⟨b, off, none⟩) n (zs.set k x) := by
  refine ⟨by rw [List.length_set]; exact h.1, fun hn => ?_⟩
  obtain ⟨b', off', e, hl, hh, hc⟩ := h.2 hn
  simp only [Option.some.injEq, Addr.mk.injEq, and_true] at e
  obtain ⟨rfl, rfl⟩ := e
  refine ⟨b, off, rfl, hl, hh, fun j hj => ⟨?_, by rw [hf]; exact (hc j hj).2⟩⟩
  rw [flat_set _ _ _ _ (by rw [h.1]; exact hk)]
  by_cases hjk : j / nc = k
  · rw [if_pos hjk]
    have hm := Nat.mod_lt j h0
    have := hs (j % nc) hm
    have e : k * nc + j % nc = j := by rw [← hjk, Nat.mul_comm]; exact Nat.div_add_mod j nc
    rw [e] at this
    exact this
  · rw [if_neg hjk, ho j hj hjk]
    exact (hc j hj).1
/-- The first that p lets pass, among those from n - m on; -1 if there is none. -/
def firstP {α : Type} [Inhabited α] (p : α → Bool) (l : List α) (n : Nat) : Nat → Int
  | 0 => -1
  | m + 1 => if p (l.getD (n - (m + 1)) default) = true then ((n - (m + 1) : Nat) : Int) else firstP p l n m
theorem firstP_stop {α : Type} [Inhabited α] {p : α → Bool} {l : List α} {n k : Nat} (hk : k < n) (h : p (l.getD k default) = true) : firstP p l n (n - k) = (k : Int) := by
  obtain ⟨m, hm⟩ : ∃ m, n - k = m + 1 := ⟨n - k - 1, by omega⟩
  rw [hm, firstP, show n - (m + 1) = k by omega, if_pos h]
theorem firstP_go {α : Type} [Inhabited α] {p : α → Bool} {l : List α} {n k : Nat} (hk : k < n) (h : p (l.getD k default) = false) : firstP p l n (n - k) = firstP p l n (n - (k + 1)) := by
  obtain ⟨m, hm⟩ : ∃ m, n - k = m + 1 := ⟨n - k - 1, by omega⟩
  rw [hm, firstP, show n - (m + 1) = k by omega, if_neg (by rw [h]; decide), show n - (k + 1) = m by omega]
theorem firstP_or {α : Type} [Inhabited α] (p : α → Bool) (l : List α) (n : Nat) : ∀ m, firstP p l n m = -1 ∨ ∃ k : Nat, firstP p l n m = (k : Int) ∧ (m ≤ n → 0 < m → k < n)
  | 0 => .inl rfl
  | m + 1 => by
    rw [firstP]
    split
    · exact .inr ⟨_, rfl, fun h _ => by omega⟩
    · rcases firstP_or p l n m with h | ⟨k, h, hk⟩
      · exact .inl h
      · refine .inr ⟨k, h, fun h1 _ => ?_⟩
        rcases Nat.eq_zero_or_pos m with h2 | h2
        · subst h2; rw [firstP] at h; omega
        · exact hk (by omega) h2
/-- The list with x in the place of the first that p lets pass, or behind all. -/
def putP {α : Type} [Inhabited α] (p : α → Bool) (zs : List α) (n : Nat) (x : α) : List α := if firstP p zs n n < 0 then zs ++ [x] else zs.set (firstP p zs n n).toNat x
theorem putP_no {α : Type} [Inhabited α] {p : α → Bool} {zs : List α} {n : Nat} {x : α} (h : firstP p zs n n = -1) : putP p zs n x = zs ++ [x] := by unfold putP; rw [h]; rfl
theorem putP_at {α : Type} [Inhabited α] {p : α → Bool} {zs : List α} {n k : Nat} {x : α} (h : firstP p zs n n = (k : Int)) : putP p zs n x = zs.set k x := by unfold putP; rw [h, if_neg (by omega)]; simp
theorem putP_len {α : Type} [Inhabited α] {p : α → Bool} {zs : List α} {n : Nat} {x : α} : (putP p zs n x).length ≤ zs.length + 1 := by unfold putP; split <;> simp
end Go.Proofs.Ytkmofhpipcodbaa
