
/- AppendVarint, by the program and by the model. -/
import Derived.Test.YtdhdkhnefnbdgaaGreatDoorVarMath
import Derived.Test.YtdhdkhnefnbdgaaGreatDoorByteS
import Derived.Test.YtdhdkhnefnbdgaaGreatDoorDig
import Derived.Test.YtdhdkhnefnbdgaaGreatDoorInR
import Derived.WalkSpells
namespace Go.Proofs.YtdhdkhnefnbdgaaGreatDoor
open Go.ChangeShapes Go.WideShapes Go.ChangeAt Go.RowKit
set_option linter.unusedVariables false

end Go.Proofs.YtdhdkhnefnbdgaaGreatDoor
