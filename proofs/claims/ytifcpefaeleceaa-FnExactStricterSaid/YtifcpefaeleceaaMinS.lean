
/- The smaller of two numbers, by the model. -/
import Derived.Test.YtifcpefaeleceaaMin
import Derived.Test.YtifcpefaeleceaaRet
namespace Go.Proofs.Ytifcpefaeleceaa
open Go.ChangeShapes Go.WideShapes Go.ChangeAt Go.RowKit
set_option linter.unusedVariables false
set_option maxRecDepth 100000 in
set_option maxHeartbeats 1600000 in
theorem specMin (a0 a1 : Int) (w : World) : Calls Try.prog 41 #[.int .i64 a0, .int .i64 a1] w fun e w' => e = .returned (.int .i64 (minV a0 a1)) ∧ w = w' := by
  by_cases c : a1 < a0
  · have hv : minV a0 a1 = a1 := if_pos c
    have HV := Lib.hid hv
    clear hv
    go_enter Try.func41, Try.ntmps41
    go_wp2
    go_ret
    exact ⟨retI HV.out.symm, rfl⟩
  · have hv : minV a0 a1 = a0 := if_neg c
    have HV := Lib.hid hv
    clear hv
    have c' : a0 ≤ a1 := by omega
    go_enter Try.func41, Try.ntmps41
    go_wp2
    go_ret
    exact ⟨retI HV.out.symm, rfl⟩
end Go.Proofs.Ytifcpefaeleceaa
