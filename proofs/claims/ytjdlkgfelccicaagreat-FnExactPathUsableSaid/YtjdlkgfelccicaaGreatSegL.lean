
/- The ASes and the MACs of a segment's hops, by both sides. -/
import Derived.Test.YtjdlkgfelccicaaGreatSegA
import Derived.Test.YtjdlkgfelccicaaGreatApp
import Derived.Test.YtjdlkgfelccicaaGreatInfo
namespace Go.Proofs.YtjdlkgfelccicaaGreat
open Go.ChangeShapes Go.WideShapes Go.ChangeAt Go.RowKit
set_option linter.unusedVariables false
/-- One field of the first k hops. -/
def colN (f : THop → Int) (zs : List THop) : Nat → List Int
  | 0 => []
  | k + 1 => colN f zs k ++ [f (zs.getD k default)]
theorem colN_len (f : THop → Int) (zs : List THop) : ∀ k, (colN f zs k).length = k
  | 0 => rfl
  | k + 1 => by rw [colN, List.length_append, colN_len f zs k]; rfl
theorem colN_get (f : THop → Int) (zs : List THop) : ∀ k j, j < k → (colN f zs k).getD j 0 = f (zs.getD j default)
  | 0, j, h => absurd h (by omega)
  | k + 1, j, h => by
    have hl := colN_len f zs k
    rw [colN, List.getD_eq_getElem?_getD]
    by_cases hj : j < k
    · rw [List.getElem?_append_left (by omega), ← List.getD_eq_getElem?_getD]
      exact colN_get f zs k j hj
    · obtain rfl : j = k := by omega
      rw [List.getElem?_append_right (by omega), hl, Nat.sub_self]
      rfl

end Go.Proofs.YtjdlkgfelccicaaGreat
