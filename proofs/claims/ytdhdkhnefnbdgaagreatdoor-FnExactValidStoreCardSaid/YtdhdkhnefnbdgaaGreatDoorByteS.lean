
/- The laws' helpers on slices of bytes: the copy, the comparison of equal rows, the marks and their check. -/
import Derived.Test.YtdhdkhnefnbdgaaGreatDoorRows
import Derived.Test.YtdhdkhnefnbdgaaGreatDoorRow
import Derived.Handy
import Derived.OwnWalk
import Derived.Deep.QuietTactic
import Derived.BigQuiet
namespace Go.Proofs.YtdhdkhnefnbdgaaGreatDoor
open Go.ChangeShapes Go.WideShapes Go.ChangeAt Go.RowKit
set_option linter.unusedVariables false
theorem infoU8 : (Tryz.prog.info? 5).map (fun i => (i.zero, i.size, i.bytes)) = some (some (.int .u8 0), 1, 1) := by kernel_rfl

end Go.Proofs.YtdhdkhnefnbdgaaGreatDoor
