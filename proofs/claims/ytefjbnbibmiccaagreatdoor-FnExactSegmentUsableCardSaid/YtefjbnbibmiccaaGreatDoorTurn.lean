
/- A row of cells that are written in any order; what is turned. -/
import Derived.Test.YtefjbnbibmiccaaGreatDoorRow
namespace Go.Proofs.YtefjbnbibmiccaaGreatDoor
open Go Go.RowKit
set_option linter.unusedVariables false
def FillP (w : World) (b N : Nat) (p : Nat → Prop) (f : Nat → Value) : Prop := ∀ j, j < N → ∃ v, w.cell? ⟨b, j, none⟩ = some v ∧ w.frozen? ⟨b, j, none⟩ = false ∧ (p j → v = f j)
theorem Fill.toP {w : World} {b N : Nat} {f g : Nat → Value} (h : Fill w b 0 N 0 f) : FillP w b N (fun _ => False) g := fun j hj => by
  obtain ⟨v, h1, h2, _⟩ := h j hj
  rw [Nat.zero_add] at h1 h2
  exact ⟨v, h1, h2, fun h => h.elim⟩
theorem FillP.set {w : World} {b N : Nat} {p : Nat → Prop} {f : Nat → Value} (h : FillP w b N p f) {m : Nat} (hm : m < N) {u : Value} (hu : u = f m) : FillP (w.setCell ⟨b, m, none⟩ u) b N (fun j => p j ∨ j = m) f := by
  intro j hj
  obtain ⟨v, h1, h2, h3⟩ := h j hj
  by_cases e : j = m
  · subst e
    exact ⟨u, World.cell?_setCell_same _ _ _ h1, by rw [World.frozen?_setCell]; exact h2, fun _ => hu⟩
  · refine ⟨v, ?_, by rw [World.frozen?_setCell]; exact h2, fun hp => h3 (hp.resolve_right e)⟩
    rw [World.cell?_setCell_other _ _ _ _ (fun h => by simp only [Addr.mk.injEq] at h; omega)]
    exact h1
theorem FillP.any {w : World} {b N : Nat} {p : Nat → Prop} {f : Nat → Value} (h : FillP w b N p f) {j : Nat} (hj : j < N) : ∃ v, w.cell? ⟨b, j, none⟩ = some v ∧ w.frozen? ⟨b, j, none⟩ = false := by
  obtain ⟨v, h1, h2, _⟩ := h j hj
  exact ⟨v, h1, h2⟩
theorem FillP.mono {w : World} {b N : Nat} {p q : Nat → Prop} {f : Nat → Value} (h : FillP w b N p f) (hq : ∀ j, j < N → q j → p j) : FillP w b N q f := fun j hj => by
  obtain ⟨v, h1, h2, h3⟩ := h j hj
  exact ⟨v, h1, h2, fun hp => h3 (hq j hj hp)⟩
theorem FillP.keep {w w' : World} {b N : Nat} {p : Nat → Prop} {f : Nat → Value} (h : FillP w b N p f) (hm : Mk0 w w') : FillP w' b N p f := fun j hj => by
  obtain ⟨v, h1, h2, h3⟩ := h j hj
  exact ⟨v, hm.cellAt h1, hm.frozenAt h1 h2, h3⟩
theorem FillP.all {w : World} {b N : Nat} {f : Nat → Value} (h : FillP w b N (fun _ => True) f) : Fill w b 0 N N f := fun j hj => by
  obtain ⟨v, h1, h2, h3⟩ := h j hj
  rw [Nat.zero_add]
  exact ⟨v, h1, h2, fun _ => h3 trivial⟩
def turnL {α : Type} [Inhabited α] (g : α → α) (zs : List α) (n : Nat) : List α := (List.range n).map fun j => g (zs.getD (n - 1 - j) default)
theorem turnL_len {α : Type} [Inhabited α] (g : α → α) (zs : List α) (n : Nat) : (turnL g zs n).length = n := by simp [turnL]
theorem turnL_at {α : Type} [Inhabited α] (g : α → α) (zs : List α) (n j : Nat) (h : j < n) : (turnL g zs n).getD j default = g (zs.getD (n - 1 - j) default) := by
  simp [turnL, List.getD_eq_getElem?_getD, h]
theorem turnL_take {α : Type} [Inhabited α] (g : α → α) (zs : List α) (n k : Nat) (h : k < n) : (turnL g zs n).take (k + 1) = (turnL g zs n).take k ++ [g (zs.getD (n - 1 - k) default)] := by
  rw [List.take_succ_eq_append_getElem (by rw [turnL_len]; exact h)]
  congr 2
  simp [turnL]
end Go.Proofs.YtefjbnbibmiccaaGreatDoor
