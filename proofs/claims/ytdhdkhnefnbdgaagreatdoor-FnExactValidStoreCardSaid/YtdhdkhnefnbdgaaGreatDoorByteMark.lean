
/- The laws' marks on slices of bytes and their check. -/
import Derived.Test.YtdhdkhnefnbdgaaGreatDoorByteS
namespace Go.Proofs.YtdhdkhnefnbdgaaGreatDoor
open Go.ChangeShapes Go.WideShapes Go.ChangeAt Go.RowKit
set_option linter.unusedVariables false
def bwrap (x : Int) : Int := x % 256
end Go.Proofs.YtdhdkhnefnbdgaaGreatDoor
