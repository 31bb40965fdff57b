
/- AppendVarint, by the program and by the model. -/
import Derived.Test.YtoicmmandniagaaVarMath
import Derived.Test.YtoicmmandniagaaByteS
import Derived.Test.YtoicmmandniagaaApp
import Derived.Test.YtoicmmandniagaaInR
import Derived.WalkSpells
namespace Go.Proofs.Ytoicmmandniagaa
open Go.ChangeShapes Go.WideShapes Go.ChangeAt Go.RowKit
set_option linter.unusedVariables false

end Go.Proofs.Ytoicmmandniagaa
