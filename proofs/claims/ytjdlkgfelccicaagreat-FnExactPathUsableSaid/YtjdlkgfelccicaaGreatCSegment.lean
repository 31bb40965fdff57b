
/- Segment by value: the laws' copy, equality and size. -/
import Derived.Test.YtjdlkgfelccicaaGreatZHop
import Derived.Test.YtjdlkgfelccicaaGreatSHop
namespace Go.Proofs.YtjdlkgfelccicaaGreat
open Go.ChangeShapes Go.WideShapes Go.ChangeAt Go.RowKit
set_option linter.unusedVariables false

end Go.Proofs.YtjdlkgfelccicaaGreat
