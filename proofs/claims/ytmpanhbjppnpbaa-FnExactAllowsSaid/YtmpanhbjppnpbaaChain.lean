
/- Chains, by the program and by the model. -/
import Derived.Test.YtmpanhbjppnpbaaModOps
import Derived.Test.YtmpanhbjppnpbaaIntS
import Derived.Test.YtmpanhbjppnpbaaDig
namespace Go.Proofs.Ytmpanhbjppnpbaa
open Go.ChangeShapes Go.WideShapes Go.ChangeAt Go.RowKit
set_option linter.unusedVariables false
def chN (b : Int) (zs : List Int) : Nat → Int
  | 0 => b
  | k + 1 => addM (chN b zs k) (zs.getD k 0)
end Go.Proofs.Ytmpanhbjppnpbaa
