
/- Segment by value: the laws' copy, equality and size. -/
import Derived.Test.YtldnfjpdhmjhoaaZHop
import Derived.Test.YtldnfjpdhmjhoaaSHop
namespace Go.Proofs.Ytldnfjpdhmjhoaa
open Go.ChangeShapes Go.WideShapes Go.ChangeAt Go.RowKit
set_option linter.unusedVariables false

end Go.Proofs.Ytldnfjpdhmjhoaa
