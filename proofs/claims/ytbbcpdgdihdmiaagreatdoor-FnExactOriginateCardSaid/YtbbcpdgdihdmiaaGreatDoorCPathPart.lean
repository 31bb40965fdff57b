
/- PathPart by value: the laws' copy, equality and size. -/
import Derived.Test.YtbbcpdgdihdmiaaGreatDoorZHop
import Derived.Test.YtbbcpdgdihdmiaaGreatDoorSHop
namespace Go.Proofs.YtbbcpdgdihdmiaaGreatDoor
open Go.ChangeShapes Go.WideShapes Go.ChangeAt Go.RowKit
set_option linter.unusedVariables false

end Go.Proofs.YtbbcpdgdihdmiaaGreatDoor
