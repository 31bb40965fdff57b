
/- Rows of hops compared, by both sides. -/
import Derived.Test.YtkmofhpipcodbaaSHop
import Derived.Test.YtkmofhpipcodbaaRet
import Derived.Deep.QuietTactic
import Derived.BigQuiet
import Derived.Laws.StructEq
namespace Go.Proofs.Ytkmofhpipcodbaa
open Go.ChangeShapes Go.WideShapes Go.ChangeAt Go.RowKit
set_option linter.unusedVariables false
def hsame (x y : THop) : Bool := (x.nd == y.nd) && ((x.ing == y.ing) && ((x.eg == y.eg) && ((x.exp == y.exp) && (x.mac == y.mac))))
def sameUp (zs zs' : List THop) : Nat → Bool
  | 0 => true
  | k + 1 => sameUp zs zs' k && hsame (zs.getD k default) (zs'.getD k default)
theorem sameUp_stop {zs zs' : List THop} {k : Nat} (h : hsame (zs.getD k default) (zs'.getD k default) = false) : ∀ n, k < n → sameUp zs zs' n = false
  | 0, hk => absurd hk (by omega)
  | n + 1, hk => by
    rw [sameUp]
    by_cases e : k = n
    · subst e; rw [h]; simp
    · rw [sameUp_stop h n (by omega)]; rfl
theorem sameUp_go {zs zs' : List THop} {k : Nat} (h0 : sameUp zs zs' k = true) (h : hsame (zs.getD k default) (zs'.getD k default) = true) : sameUp zs zs' (k + 1) = true := by
  rw [sameUp, h0, h]; rfl
def eqHopsB (zs zs' : List THop) (n n' : Nat) : Bool := if n = n' then sameUp zs zs' n else false

end Go.Proofs.Ytkmofhpipcodbaa
