
/- PathPart by value: the laws' copy, equality and size. -/
import Derived.Test.YtefjbnbibmiccaaGreatDoorZHop
import Derived.Test.YtefjbnbibmiccaaGreatDoorSHop
namespace Go.Proofs.YtefjbnbibmiccaaGreatDoor
open Go.ChangeShapes Go.WideShapes Go.ChangeAt Go.RowKit
set_option linter.unusedVariables false

end Go.Proofs.YtefjbnbibmiccaaGreatDoor
