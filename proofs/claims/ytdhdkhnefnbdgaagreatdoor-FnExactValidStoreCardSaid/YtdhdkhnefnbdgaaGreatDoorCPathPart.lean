
/- PathPart by value: the laws' copy, equality and size. -/
import Derived.Test.YtdhdkhnefnbdgaaGreatDoorZHop
import Derived.Test.YtdhdkhnefnbdgaaGreatDoorSHop
namespace Go.Proofs.YtdhdkhnefnbdgaaGreatDoor
open Go.ChangeShapes Go.WideShapes Go.ChangeAt Go.RowKit
set_option linter.unusedVariables false

end Go.Proofs.YtdhdkhnefnbdgaaGreatDoor
