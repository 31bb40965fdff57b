
/- Whether a number is an AS's; whether a row holds a number. -/
import Derived.Test.YtbkbkpnpllemfaaCTopology
import Derived.Test.YtbkbkpnpllemfaaInR
import Derived.Test.YtbkbkpnpllemfaaRow
import Derived.Test.YtbkbkpnpllemfaaSeen
namespace Go.Proofs.Ytbkbkpnpllemfaa
open Go.ChangeShapes Go.WideShapes Go.ChangeAt Go.RowKit
set_option linter.unusedVariables false
def isAsB (n : Nat) (r : Int) : Bool := decide (0 ≤ r ∧ r < (n : Int))
end Go.Proofs.Ytbkbkpnpllemfaa
