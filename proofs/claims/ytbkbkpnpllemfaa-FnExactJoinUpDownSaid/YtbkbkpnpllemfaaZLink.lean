
/- Link: how many of them, counted by the laws. -/
import Derived.Test.YtbkbkpnpllemfaaSLink
namespace Go.Proofs.Ytbkbkpnpllemfaa
open Go.ChangeShapes Go.WideShapes Go.ChangeAt Go.RowKit
set_option linter.unusedVariables false
end Go.Proofs.Ytbkbkpnpllemfaa
