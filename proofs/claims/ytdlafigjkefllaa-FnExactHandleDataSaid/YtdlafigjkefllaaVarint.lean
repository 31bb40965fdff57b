
/- AppendVarint, by the program and by the model. -/
import Derived.Test.YtdlafigjkefllaaVarMath
import Derived.Test.YtdlafigjkefllaaByteS
import Derived.Test.YtdlafigjkefllaaDig
import Derived.Test.YtdlafigjkefllaaInR
import Derived.WalkSpells
namespace Go.Proofs.Ytdlafigjkefllaa
open Go.ChangeShapes Go.WideShapes Go.ChangeAt Go.RowKit
set_option linter.unusedVariables false

end Go.Proofs.Ytdlafigjkefllaa
