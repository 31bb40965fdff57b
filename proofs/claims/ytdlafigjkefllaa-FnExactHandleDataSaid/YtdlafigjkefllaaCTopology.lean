
/- Topology by value: the laws' copy, equality and size. -/
import Derived.Test.YtdlafigjkefllaaZAS
import Derived.Test.YtdlafigjkefllaaZLink
import Derived.Test.YtdlafigjkefllaaSAS
import Derived.Test.YtdlafigjkefllaaSLink
namespace Go.Proofs.Ytdlafigjkefllaa
open Go.ChangeShapes Go.WideShapes Go.ChangeAt Go.RowKit
set_option linter.unusedVariables false

end Go.Proofs.Ytdlafigjkefllaa
