
/- The laws' marks on slices of integers and their check. -/
import Derived.Test.YtdhdkhnefnbdgaaGreatDoorBetaAt
namespace Go.Proofs.YtdhdkhnefnbdgaaGreatDoor
open Go.ChangeShapes Go.WideShapes Go.ChangeAt Go.RowKit
set_option linter.unusedVariables false
end Go.Proofs.YtdhdkhnefnbdgaaGreatDoor
