
/- The smaller of two numbers, by the program. -/
import Derived.Test.YtdlbncpjdldkoaaBase
import Derived.Test.YtdlbncpjdldkoaaRows
import Derived.Handy
import Derived.Below
import Derived.Lib.Hide
namespace Go.Proofs.Ytdlbncpjdldkoaa
open Go.ChangeShapes Go.WideShapes Go.ChangeAt Go.RowKit
set_option linter.unusedVariables false
def minV (a b : Int) : Int := if b < a then b else a
theorem ret_i {a b : Int} (h : a = b) : Ending.returned (.int .i64 a) = .returned (.int .i64 b) := by rw [h]
end Go.Proofs.Ytdlbncpjdldkoaa
