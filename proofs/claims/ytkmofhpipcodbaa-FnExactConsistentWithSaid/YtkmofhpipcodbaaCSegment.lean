
/- Segment by value: the laws' copy, equality and size. -/
import Derived.Test.YtkmofhpipcodbaaZHop
import Derived.Test.YtkmofhpipcodbaaSHop
namespace Go.Proofs.Ytkmofhpipcodbaa
open Go.ChangeShapes Go.WideShapes Go.ChangeAt Go.RowKit
set_option linter.unusedVariables false

end Go.Proofs.Ytkmofhpipcodbaa
