
/- PathPart by value: the laws' copy, equality and size. -/
import Derived.Test.YtefjbnbibmiccaaDoorZHop
import Derived.Test.YtefjbnbibmiccaaDoorSHop
namespace Go.Proofs.YtefjbnbibmiccaaDoor
open Go.ChangeShapes Go.WideShapes Go.ChangeAt Go.RowKit
set_option linter.unusedVariables false

end Go.Proofs.YtefjbnbibmiccaaDoor
