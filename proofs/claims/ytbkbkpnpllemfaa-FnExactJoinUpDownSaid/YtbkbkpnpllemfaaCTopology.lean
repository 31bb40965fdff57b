
/- Topology by value: the laws' copy, equality and size. -/
import Derived.Test.YtbkbkpnpllemfaaZAS
import Derived.Test.YtbkbkpnpllemfaaZLink
import Derived.Test.YtbkbkpnpllemfaaSAS
import Derived.Test.YtbkbkpnpllemfaaSLink
namespace Go.Proofs.Ytbkbkpnpllemfaa
open Go.ChangeShapes Go.WideShapes Go.ChangeAt Go.RowKit
set_option linter.unusedVariables false

end Go.Proofs.Ytbkbkpnpllemfaa
