
/- Segment by value: the laws' copy, equality and size. -/
import Derived.Test.YtcihofjegjiakaaZHop
import Derived.Test.YtcihofjegjiakaaSHop
namespace Go.Proofs.Ytcihofjegjiakaa
open Go.ChangeShapes Go.WideShapes Go.ChangeAt Go.RowKit
set_option linter.unusedVariables false

end Go.Proofs.Ytcihofjegjiakaa
