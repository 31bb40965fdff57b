
/- Whether two rows of integers are equal: the library, the program and the model. -/
import Derived.Test.YtkmofhpipcodbaaIntS
namespace Go.Proofs.Ytkmofhpipcodbaa
open Go.ChangeShapes Go.WideShapes Go.ChangeAt Go.RowKit
set_option linter.unusedVariables false
def eqB (xs ys : List Int) : Bool := decide (xs = ys)
theorem eqB_yes {xs ys : List Int} {n : Nat} (h : xs.length = n) (h' : ys.length = n) (hp : ∀ j, j < n → xs.getD j 0 = ys.getD j 0) : eqB xs ys = true := by
  have : xs = ys := by
    apply List.ext_getElem (by omega)
    intro i h1 h2
    have := hp i (by omega)
    simpa [List.getD_eq_getElem?_getD, h1, h2] using this
  simp [eqB, this]
theorem eqB_no {xs ys : List Int} (h : xs ≠ ys) : eqB xs ys = false := by simp [eqB, h]
theorem eq_snoc {xs ys : List Int} {k : Nat} (hp : ∀ j, j < k → xs.getD j 0 = ys.getD j 0) (h : xs.getD k 0 = ys.getD k 0) : ∀ j, j < k + 1 → xs.getD j 0 = ys.getD j 0 := by
  intro j hj
  by_cases e : j = k
  · subst e; exact h
  · exact hp j (by omega)
end Go.Proofs.Ytkmofhpipcodbaa
