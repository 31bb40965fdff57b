
/- Topology by value: the laws' copy, equality and size. -/
import Derived.Test.YtldnfjpdhmjhoaaZAS
import Derived.Test.YtldnfjpdhmjhoaaZLink
import Derived.Test.YtldnfjpdhmjhoaaSAS
import Derived.Test.YtldnfjpdhmjhoaaSLink
namespace Go.Proofs.Ytldnfjpdhmjhoaa
open Go.ChangeShapes Go.WideShapes Go.ChangeAt Go.RowKit
set_option linter.unusedVariables false

end Go.Proofs.Ytldnfjpdhmjhoaa
