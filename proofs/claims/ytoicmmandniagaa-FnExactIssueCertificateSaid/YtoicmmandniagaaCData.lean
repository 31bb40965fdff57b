
/- CertificateData of both sides. -/
import Derived.Test.YtoicmmandniagaaCCertificate
import Derived.Test.YtoicmmandniagaaApp
import Derived.Test.YtoicmmandniagaaIntS
import Derived.Test.YtoicmmandniagaaStat
namespace Go.Proofs.Ytoicmmandniagaa
open Go.ChangeShapes Go.WideShapes Go.ChangeAt Go.RowKit
set_option linter.unusedVariables false
set_option maxRecDepth 100000 in
set_option maxHeartbeats 4000000 in
theorem specCData (x0 x1 x2 x3 x4 x5 x6 : Int) (w : World) :
    Calls Try.prog 28 #[.agg #[.int .i64 x0, .int .i64 x1, .int .i64 x2, .int .i64 x3, .int .i64 x4, .int .i64 x5, .int .i64 x6]] w (OutR .i64 w [x0, x1, x2, x3, x4]) := by
  have M0 := Mk.alloc w (Obj.cells #[Value.int .i64 x0, Value.int .i64 x1, Value.int .i64 x2, Value.int .i64 x3, Value.int .i64 x4, Value.int .i64 x5, Value.int .i64 x6] 39)
  have ol := own_lit (w.alloc (Obj.cells #[Value.int .i64 x0, Value.int .i64 x1, Value.int .i64 x2, Value.int .i64 x3, Value.int .i64 x4, Value.int .i64 x5, Value.int .i64 x6] 39)) 3 ([x0, x1, x2, x3, x4].map (.int .i64)) (by simp)
  have hs1 : (w.alloc (Obj.cells #[Value.int .i64 x0, Value.int .i64 x1, Value.int .i64 x2, Value.int .i64 x3, Value.int .i64 x4, Value.int .i64 x5, Value.int .i64 x6] 39)).heap.size = w.heap.size + 1 := by rw [World.size_alloc]
  have MU := M0.new (.cells #[.int .i64 x0, .int .i64 x1, .int .i64 x2, .int .i64 x3, .int .i64 x4] 3)
  rw [hs1] at ol
  go_enter Try.func28, Try.ntmps28
  go_wp2_with fail
  go_ret
  exact OutR.of (own_low ol (Nat.le_succ _)) MU.below0

set_option maxRecDepth 100000 in
set_option maxHeartbeats 4000000 in
theorem implCData (x0 x1 x2 x3 x4 x5 x6 : Int) (w : World) :
    Calls Try.prog 34 #[.agg #[.int .i64 x0, .int .i64 x1, .int .i64 x2, .int .i64 x3, .int .i64 x4, .int .i64 x5, .int .i64 x6]] w (OutR .i64 w [x0, x1, x2, x3, x4]) := by
  have M0 := Mk.alloc w (Obj.cells #[Value.int .i64 x0, Value.int .i64 x1, Value.int .i64 x2, Value.int .i64 x3, Value.int .i64 x4, Value.int .i64 x5, Value.int .i64 x6] 39)
  have ol := own_lit (w.alloc (Obj.cells #[Value.int .i64 x0, Value.int .i64 x1, Value.int .i64 x2, Value.int .i64 x3, Value.int .i64 x4, Value.int .i64 x5, Value.int .i64 x6] 39)) 3 ([x0, x1, x2, x3, x4].map (.int .i64)) (by simp)
  have hs1 : (w.alloc (Obj.cells #[Value.int .i64 x0, Value.int .i64 x1, Value.int .i64 x2, Value.int .i64 x3, Value.int .i64 x4, Value.int .i64 x5, Value.int .i64 x6] 39)).heap.size = w.heap.size + 1 := by rw [World.size_alloc]
  have MU := M0.new (.cells #[.int .i64 x0, .int .i64 x1, .int .i64 x2, .int .i64 x3, .int .i64 x4] 3)
  rw [hs1] at ol
  go_enter Try.func34, Try.ntmps34
  go_wp2_with fail
  go_ret
  exact OutR.of (own_low ol (Nat.le_succ _)) MU.below0

end Go.Proofs.Ytoicmmandniagaa
