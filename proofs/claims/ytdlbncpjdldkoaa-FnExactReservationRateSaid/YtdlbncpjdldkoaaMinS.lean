
/- The smaller of two numbers, by the model. -/
import Derived.Test.YtdlbncpjdldkoaaMin
import Derived.Test.YtdlbncpjdldkoaaRet
namespace Go.Proofs.Ytdlbncpjdldkoaa
open Go.ChangeShapes Go.WideShapes Go.ChangeAt Go.RowKit
set_option linter.unusedVariables false
end Go.Proofs.Ytdlbncpjdldkoaa
