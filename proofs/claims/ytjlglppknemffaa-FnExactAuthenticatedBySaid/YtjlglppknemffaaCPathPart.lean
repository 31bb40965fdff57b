
/- PathPart by value: the laws' copy, equality and size. -/
import Derived.Test.YtjlglppknemffaaZHop
import Derived.Test.YtjlglppknemffaaSHop
namespace Go.Proofs.Ytjlglppknemffaa
open Go.ChangeShapes Go.WideShapes Go.ChangeAt Go.RowKit
set_option linter.unusedVariables false

end Go.Proofs.Ytjlglppknemffaa
