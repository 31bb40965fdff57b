
/- Segment by value: the laws' copy, equality and size. -/
import Derived.Test.YtbjfcjjfhnjaiaaZHop
import Derived.Test.YtbjfcjjfhnjaiaaSHop
namespace Go.Proofs.Ytbjfcjjfhnjaiaa
open Go.ChangeShapes Go.WideShapes Go.ChangeAt Go.RowKit
set_option linter.unusedVariables false

end Go.Proofs.Ytbjfcjjfhnjaiaa
