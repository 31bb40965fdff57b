
/- AppendVarint, by the program and by the model. -/
import Derived.Test.YtbjfcjjfhnjaiaaVarMath
import Derived.Test.YtbjfcjjfhnjaiaaByteS
import Derived.Test.YtbjfcjjfhnjaiaaApp
import Derived.Test.YtbjfcjjfhnjaiaaInR
import Derived.WalkSpells
namespace Go.Proofs.Ytbjfcjjfhnjaiaa
open Go.ChangeShapes Go.WideShapes Go.ChangeAt Go.RowKit
set_option linter.unusedVariables false

end Go.Proofs.Ytbjfcjjfhnjaiaa
