
/- The laws' marks on slices of integers and their check. -/
import Derived.Test.YtjdlkgfelccicaaGreatIntS
namespace Go.Proofs.YtjdlkgfelccicaaGreat
open Go.ChangeShapes Go.WideShapes Go.ChangeAt Go.RowKit
set_option linter.unusedVariables false
end Go.Proofs.YtjdlkgfelccicaaGreat
