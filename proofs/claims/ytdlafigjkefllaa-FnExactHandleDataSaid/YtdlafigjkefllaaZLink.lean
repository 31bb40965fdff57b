
/- Link: how many of them, counted by the laws. -/
import Derived.Test.YtdlafigjkefllaaSLink
namespace Go.Proofs.Ytdlafigjkefllaa
open Go.ChangeShapes Go.WideShapes Go.ChangeAt Go.RowKit
set_option linter.unusedVariables false
end Go.Proofs.Ytdlafigjkefllaa
