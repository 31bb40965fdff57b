
/- AppendVarint, by the program and by the model. -/
import Derived.Test.YtkmofhpipcodbaaVarMath
import Derived.Test.YtkmofhpipcodbaaByteS
import Derived.Test.YtkmofhpipcodbaaApp
import Derived.Test.YtkmofhpipcodbaaInR
import Derived.WalkSpells
namespace Go.Proofs.Ytkmofhpipcodbaa
open Go.ChangeShapes Go.WideShapes Go.ChangeAt Go.RowKit
set_option linter.unusedVariables false

end Go.Proofs.Ytkmofhpipcodbaa
