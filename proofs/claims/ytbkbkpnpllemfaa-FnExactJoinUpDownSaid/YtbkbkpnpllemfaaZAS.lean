
/- AS: how many of them, counted by the laws. -/
import Derived.Test.YtbkbkpnpllemfaaSAS
namespace Go.Proofs.Ytbkbkpnpllemfaa
open Go.ChangeShapes Go.WideShapes Go.ChangeAt Go.RowKit
set_option linter.unusedVariables false
end Go.Proofs.Ytbkbkpnpllemfaa
