
/- AppendVarint, by the program and by the model. -/
import Derived.Test.YtgchhkgcdcknlaaDoorVarMath
import Derived.Test.YtgchhkgcdcknlaaDoorByteS
import Derived.Test.YtgchhkgcdcknlaaDoorApp
import Derived.Test.YtgchhkgcdcknlaaDoorInR
import Derived.WalkSpells
namespace Go.Proofs.YtgchhkgcdcknlaaDoor
open Go.ChangeShapes Go.WideShapes Go.ChangeAt Go.RowKit
set_option linter.unusedVariables false

end Go.Proofs.YtgchhkgcdcknlaaDoor
