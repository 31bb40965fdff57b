
/- ExpiryFor and Stricter of both sides. -/
import Derived.Test.YtifcpefaeleceaaSPolicy
import Derived.Test.YtifcpefaeleceaaMinS
namespace Go.Proofs.Ytifcpefaeleceaa
open Go.ChangeShapes Go.WideShapes Go.ChangeAt Go.RowKit
set_option linter.unusedVariables false
set_option maxRecDepth 100000 in
set_option maxHeartbeats 1600000 in
theorem specExpFor (x : TPolicy) (t : Int) (w : World) : Calls Try.prog 20 #[.agg #[.int .i64 x.len, .int .i64 x.denied, .int .i64 x.closed, .int .i64 x.life], .int .i64 t] w fun e w' => e = .returned (.int .i64 (minV (wrap64 (t + x.life)) 1000000)) ∧ Mk0 w w' := by
  go_enter Try.func20, Try.ntmps20
  go_wp2_with fail
  refine (specMin _ _ _).mono ?_
  rintro e w' ⟨rfl, rfl⟩
  go_wp2_with fail
  go_ret
  exact ⟨rfl, Mk.alloc _ _⟩
set_option maxRecDepth 100000 in
set_option maxHeartbeats 1600000 in
theorem implExpFor (x : TPolicy) (t : Int) (w : World) : Calls Try.prog 21 #[.agg #[.int .i64 x.len, .int .i64 x.denied, .int .i64 x.closed, .int .i64 x.life], .int .i64 t] w fun e w' => e = .returned (.int .i64 (minV (wrap64 (t + x.life)) 1000000)) ∧ Mk0 w w' := by
  go_enter Try.func21, Try.ntmps21
  go_wp2_with fail
  refine (implMin _ _ _).mono ?_
  rintro e w1 ⟨rfl, b1⟩
  go_wp2_with fail
  go_ret
  exact ⟨rfl, (Mk.alloc _ _).trans (Mk.of_below b1)⟩
end Go.Proofs.Ytifcpefaeleceaa
