
/- The row of the table of int. -/
import Derived.Test.YtoicmmandniagaaRows
import Derived.OwnWalk
import Derived.WalkKit
namespace Go.Proofs.Ytoicmmandniagaa
open Go
theorem infoI64 : (Try.prog.info? 3).map (fun i => (i.zero, i.size, i.bytes)) = some (some (.int .i64 0), 1, 8) := by kernel_rfl
end Go.Proofs.Ytoicmmandniagaa
