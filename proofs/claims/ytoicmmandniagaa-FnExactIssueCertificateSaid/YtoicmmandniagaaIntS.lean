
/- The laws' helpers on slices of integers: the copy, the comparison of equal rows, the marks and their check. -/
import Derived.Test.YtoicmmandniagaaRows
import Derived.Test.YtoicmmandniagaaMem
import Derived.Test.YtoicmmandniagaaInfo
import Derived.Handy
import Derived.OwnWalk
import Derived.Deep.QuietTactic
import Derived.BigQuiet
namespace Go.Proofs.Ytoicmmandniagaa
open Go.ChangeShapes Go.WideShapes Go.ChangeAt Go.RowKit
set_option linter.unusedVariables false

end Go.Proofs.Ytoicmmandniagaa
