
/- Segment by value: the laws' copy, equality and size. -/
import Derived.Test.YtifhhfndoifbhaaGreatZHop
import Derived.Test.YtifhhfndoifbhaaGreatSHop
namespace Go.Proofs.YtifhhfndoifbhaaGreat
open Go.ChangeShapes Go.WideShapes Go.ChangeAt Go.RowKit
set_option linter.unusedVariables false

end Go.Proofs.YtifhhfndoifbhaaGreat
