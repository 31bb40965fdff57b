
/- The range test, by the program and by the model, where its answer is known. -/
import Derived.Test.YtdlafigjkefllaaRow
import Derived.Test.YtdlafigjkefllaaRows
import Derived.Handy
import Derived.Lib.Hide
namespace Go.Proofs.Ytdlafigjkefllaa
open Go.ChangeShapes Go.WideShapes Go.ChangeAt Go.RowKit
set_option linter.unusedVariables false
end Go.Proofs.Ytdlafigjkefllaa
