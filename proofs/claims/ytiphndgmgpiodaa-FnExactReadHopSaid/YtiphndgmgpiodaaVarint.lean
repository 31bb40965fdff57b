
/- AppendVarint, by the program and by the model. -/
import Derived.Test.YtiphndgmgpiodaaVarMath
import Derived.Test.YtiphndgmgpiodaaByteS
import Derived.Test.YtiphndgmgpiodaaApp
import Derived.Test.YtiphndgmgpiodaaInR
import Derived.WalkSpells
namespace Go.Proofs.Ytiphndgmgpiodaa
open Go.ChangeShapes Go.WideShapes Go.ChangeAt Go.RowKit
set_option linter.unusedVariables false

end Go.Proofs.Ytiphndgmgpiodaa
