
/- The smaller of two numbers, by the model. -/
import Derived.Test.YtdbaecgbhadkbaaMin
import Derived.Test.YtdbaecgbhadkbaaRet
namespace Go.Proofs.Ytdbaecgbhadkbaa
open Go.ChangeShapes Go.WideShapes Go.ChangeAt Go.RowKit
set_option linter.unusedVariables false
end Go.Proofs.Ytdbaecgbhadkbaa
