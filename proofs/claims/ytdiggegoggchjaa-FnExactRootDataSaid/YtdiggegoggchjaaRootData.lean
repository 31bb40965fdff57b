
/- What a root states, by both sides. -/
import Derived.Test.YtdiggegoggchjaaCTrustRoot
import Derived.Test.YtdiggegoggchjaaApp
import Derived.Deep.QuietTactic
import Derived.BigQuiet
namespace Go.Proofs.Ytdiggegoggchjaa
open Go.ChangeShapes Go.WideShapes Go.ChangeAt Go.RowKit
set_option linter.unusedVariables false
set_option maxRecDepth 100000 in
set_option maxHeartbeats 4000000 in
theorem specRootData (x0 x1 x2 x3 x4 x5 : Int) (a : Option Addr) (n c : Nat) (w : World) :
    Calls Try.prog 45 #[.agg #[.int .i64 x0, .int .i64 x1, .int .i64 x2, .int .i64 x3, .int .i64 x4, .int .i64 x5, .slice a n c]] w (OutR .i64 w [x0, x1, x2, x3, x4, x5]) := by
  have hb : Below w.heap.size w ((w.alloc (Obj.cells #[Value.int .i64 x0, Value.int .i64 x1, Value.int .i64 x2, Value.int .i64 x3, Value.int .i64 x4, Value.int .i64 x5, Value.slice a n c] 76)).alloc (.cells #[.int .i64 x0, .int .i64 x1, .int .i64 x2, .int .i64 x3, .int .i64 x4, .int .i64 x5] 3)) := ((Below.refl _ _).alloc (Nat.le_refl _) _).alloc (by simp) _
  go_enter Try.func45, Try.ntmps45
  go_wp2_with fail
  go_ret
  refine ⟨_, 6, 6, rfl, (fun h => by cases h), ?_, hb⟩
  have h := ownsRow_own (k := .i64) (zs := [x0, x1, x2, x3, x4, x5]) (c := 6) (own_lit (w.alloc (Obj.cells #[Value.int .i64 x0, Value.int .i64 x1, Value.int .i64 x2, Value.int .i64 x3, Value.int .i64 x4, Value.int .i64 x5, Value.slice a n c] 76)) 3 [.int .i64 x0, .int .i64 x1, .int .i64 x2, .int .i64 x3, .int .i64 x4, .int .i64 x5] (by simp))
  simpa using h.low (lo' := w.heap.size) (by simp)

set_option maxRecDepth 100000 in
set_option maxHeartbeats 4000000 in
theorem implRootData (x0 x1 x2 x3 x4 x5 : Int) (a : Option Addr) (n c : Nat) (w : World) :
    Calls Try.prog 47 #[.agg #[.int .i64 x0, .int .i64 x1, .int .i64 x2, .int .i64 x3, .int .i64 x4, .int .i64 x5, .slice a n c]] w (OutR .i64 w [x0, x1, x2, x3, x4, x5]) := by
  have hb : Below w.heap.size w ((w.alloc (Obj.cells #[Value.int .i64 x0, Value.int .i64 x1, Value.int .i64 x2, Value.int .i64 x3, Value.int .i64 x4, Value.int .i64 x5, Value.slice a n c] 76)).alloc (.cells #[.int .i64 x0, .int .i64 x1, .int .i64 x2, .int .i64 x3, .int .i64 x4, .int .i64 x5] 3)) := ((Below.refl _ _).alloc (Nat.le_refl _) _).alloc (by simp) _
  go_enter Try.func47, Try.ntmps47
  go_wp2_with fail
  go_ret
  refine ⟨_, 6, 6, rfl, (fun h => by cases h), ?_, hb⟩
  have h := ownsRow_own (k := .i64) (zs := [x0, x1, x2, x3, x4, x5]) (c := 6) (own_lit (w.alloc (Obj.cells #[Value.int .i64 x0, Value.int .i64 x1, Value.int .i64 x2, Value.int .i64 x3, Value.int .i64 x4, Value.int .i64 x5, Value.slice a n c] 76)) 3 [.int .i64 x0, .int .i64 x1, .int .i64 x2, .int .i64 x3, .int .i64 x4, .int .i64 x5] (by simp))
  simpa using h.low (lo' := w.heap.size) (by simp)

end Go.Proofs.Ytdiggegoggchjaa
