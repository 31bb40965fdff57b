
/- ValidHop of both sides. -/
import Derived.Test.YtkmofhpipcodbaaSHop
import Derived.Test.YtkmofhpipcodbaaRet
namespace Go.Proofs.Ytkmofhpipcodbaa
open Go.ChangeShapes Go.WideShapes Go.ChangeAt Go.RowKit
set_option linter.unusedVariables false
def hopOk (x : THop) : Bool := decide ((0 ≤ x.nd ∧ x.nd ≤ 7) ∧ (0 ≤ x.ing ∧ x.ing ≤ 6) ∧ (0 ≤ x.eg ∧ x.eg ≤ 6) ∧ x.ing ≠ x.eg ∧ (0 ≤ x.exp ∧ x.exp ≤ 1000000) ∧ (0 ≤ x.mac ∧ x.mac ≤ 2147483646))
end Go.Proofs.Ytkmofhpipcodbaa
