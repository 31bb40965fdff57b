
/- The smaller of two numbers, by the program. -/
import Derived.Test.YtldnfjpdhmjhoaaRow
import Derived.Test.YtldnfjpdhmjhoaaRows
import Derived.Handy
import Derived.Below
import Derived.Lib.Hide
import Derived.Test.YtldnfjpdhmjhoaaSPolicy
namespace Go.Proofs.Ytldnfjpdhmjhoaa
open Go.ChangeShapes Go.WideShapes Go.ChangeAt Go.RowKit
set_option linter.unusedVariables false
def minV (a b : Int) : Int := if b < a then b else a
theorem ret_i {a b : Int} (h : a = b) : Ending.returned (.int .i64 a) = .returned (.int .i64 b) := by rw [h]
end Go.Proofs.Ytldnfjpdhmjhoaa
namespace Go.Proofs.Ytldnfjpdhmjhoaa
open Go.ChangeShapes Go.WideShapes Go.ChangeAt Go.RowKit
set_option linter.unusedVariables false
end Go.Proofs.Ytldnfjpdhmjhoaa
namespace Go.Proofs.Ytldnfjpdhmjhoaa
open Go.ChangeShapes Go.WideShapes Go.ChangeAt Go.RowKit
set_option linter.unusedVariables false
end Go.Proofs.Ytldnfjpdhmjhoaa
