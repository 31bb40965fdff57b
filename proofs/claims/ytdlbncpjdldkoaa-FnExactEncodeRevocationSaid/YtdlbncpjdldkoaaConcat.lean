
/- slices.Concat of slices of integers. -/
import Derived.Test.YtdlbncpjdldkoaaRows
import Derived.Test.YtdlbncpjdldkoaaInfo
import Derived.Test.YtdlbncpjdldkoaaApp
namespace Go.Proofs.Ytdlbncpjdldkoaa
open Go.ChangeShapes Go.WideShapes Go.ChangeAt Go.RowKit
set_option linter.unusedVariables false

theorem flat_succ (P : List (List Int)) (k : Nat) (h : k < P.length) : (P.take (k + 1)).flatten = (P.take k).flatten ++ P.getD k [] := by
  rw [List.take_succ_eq_append_getElem h, List.flatten_append]
  simp [List.getD_eq_getElem?_getD, h]
theorem flat_len (P : List (List Int)) (k : Nat) : (P.take k).flatten.length ≤ P.flatten.length := by
  have h : P.flatten = (P.take k).flatten ++ (P.drop k).flatten := by rw [← List.flatten_append, List.take_append_drop]
  rw [h, List.length_append]
  omega

/-- Parts of a slice of slices. -/
def Parts (w : World) (b off : Nat) (P : List (List Int)) : Prop :=
  b < w.heap.size ∧ ∀ j, j < P.length → ∃ A n c, w.cell? ⟨b, off + j, none⟩ = some (.slice A n c) ∧ (A = none → c = 0) ∧ Has .i64 w w.heap.size A n (P.getD j [])
theorem Parts.below {w w' : World} {b off : Nat} {P : List (List Int)} (h : Parts w b off P) (hb : Below w.heap.size w w') : Parts w' b off P :=
  ⟨Nat.lt_of_lt_of_le h.1 hb.size, fun j hj => by
    obtain ⟨A, n, c, h1, h2, h3⟩ := h.2 j hj
    exact ⟨A, n, c, by rw [hb.cell h.1]; exact h1, h2, h3.next hb⟩⟩

end Go.Proofs.Ytdlbncpjdldkoaa
