
/- EqualParts of both sides. -/
import Derived.Test.YtkmofhpipcodbaaEqHops
import Derived.Test.YtkmofhpipcodbaaCPathPart
namespace Go.Proofs.Ytkmofhpipcodbaa
open Go.ChangeShapes Go.WideShapes Go.ChangeAt Go.RowKit
set_option linter.unusedVariables false
def eqPartB (k0 x0 y0 k1 x1 y1 : Int) (zs zs' : List THop) (n n' : Nat) : Bool := (k0 == k1) && ((x0 == x1) && ((y0 == y1) && eqHopsB zs zs' n n'))
end Go.Proofs.Ytkmofhpipcodbaa
