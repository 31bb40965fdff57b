
/- AppendVarint, by the program and by the model. -/
import Derived.Test.YthpejolljkbenaaDoorVarMath
import Derived.Test.YthpejolljkbenaaDoorByteS
import Derived.Test.YthpejolljkbenaaDoorApp
import Derived.Test.YthpejolljkbenaaDoorInR
import Derived.WalkSpells
namespace Go.Proofs.YthpejolljkbenaaDoor
open Go.ChangeShapes Go.WideShapes Go.ChangeAt Go.RowKit
set_option linter.unusedVariables false

end Go.Proofs.YthpejolljkbenaaDoor
