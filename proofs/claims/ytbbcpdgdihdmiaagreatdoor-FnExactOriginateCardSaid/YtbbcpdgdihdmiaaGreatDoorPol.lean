
/- The smaller of two numbers, by the program. -/
import Derived.Test.YtbbcpdgdihdmiaaGreatDoorRow
import Derived.Test.YtbbcpdgdihdmiaaGreatDoorRows
import Derived.Handy
import Derived.Below
import Derived.Lib.Hide
import Derived.Test.YtbbcpdgdihdmiaaGreatDoorSPolicy
namespace Go.Proofs.YtbbcpdgdihdmiaaGreatDoor
open Go.ChangeShapes Go.WideShapes Go.ChangeAt Go.RowKit
set_option linter.unusedVariables false
def minV (a b : Int) : Int := if b < a then b else a
theorem ret_i {a b : Int} (h : a = b) : Ending.returned (.int .i64 a) = .returned (.int .i64 b) := by rw [h]
theorem implMin (a0 a1 : Int) (w : World) :
    Calls Tryz.prog 102 #[.int .i64 a0, .int .i64 a1] w fun e w' => e = .returned (.int .i64 (minV a0 a1)) ∧ Below w.heap.size w w' := by
  by_cases c : a1 < a0
  · have hv : minV a0 a1 = a1 := if_pos c
    have HV := Lib.hid hv
    clear hv
    go_enter Tryz.func102, Tryz.ntmps102
    go_wp2
    go_rounds 2
    all_goals (go_ret; exact ⟨ret_i HV.out.symm, by go_grown⟩)
  · have hv : minV a0 a1 = a0 := if_neg c
    have HV := Lib.hid hv
    clear hv
    have c' : a0 ≤ a1 := by omega
    go_enter Tryz.func102, Tryz.ntmps102
    go_wp2
    go_rounds 2
    all_goals (go_ret; exact ⟨ret_i HV.out.symm, by go_grown⟩)
end Go.Proofs.YtbbcpdgdihdmiaaGreatDoor
namespace Go.Proofs.YtbbcpdgdihdmiaaGreatDoor
open Go.ChangeShapes Go.WideShapes Go.ChangeAt Go.RowKit
set_option linter.unusedVariables false
set_option maxRecDepth 100000 in
set_option maxHeartbeats 1600000 in
theorem specMin (a0 a1 : Int) (w : World) : Calls Tryz.prog 64 #[.int .i64 a0, .int .i64 a1] w fun e w' => e = .returned (.int .i64 (minV a0 a1)) ∧ w = w' := by
  by_cases c : a1 < a0
  · have hv : minV a0 a1 = a1 := if_pos c
    have HV := Lib.hid hv
    clear hv
    go_enter Tryz.func64, Tryz.ntmps64
    go_wp2
    go_ret
    exact ⟨retI HV.out.symm, rfl⟩
  · have hv : minV a0 a1 = a0 := if_neg c
    have HV := Lib.hid hv
    clear hv
    have c' : a0 ≤ a1 := by omega
    go_enter Tryz.func64, Tryz.ntmps64
    go_wp2
    go_ret
    exact ⟨retI HV.out.symm, rfl⟩
end Go.Proofs.YtbbcpdgdihdmiaaGreatDoor
namespace Go.Proofs.YtbbcpdgdihdmiaaGreatDoor
open Go.ChangeShapes Go.WideShapes Go.ChangeAt Go.RowKit
set_option linter.unusedVariables false
set_option maxRecDepth 100000 in
set_option maxHeartbeats 1600000 in
theorem specExpFor (x : TPolicy) (t : Int) (w : World) : Calls Tryz.prog 38 #[.agg #[.int .i64 x.len, .int .i64 x.denied, .int .i64 x.closed, .int .i64 x.life], .int .i64 t] w fun e w' => e = .returned (.int .i64 (minV (wrap64 (t + x.life)) 1000000)) ∧ Mk0 w w' := by
  go_enter Tryz.func38, Tryz.ntmps38
  go_wp2_with fail
  refine (specMin _ _ _).mono ?_
  rintro e w' ⟨rfl, rfl⟩
  go_wp2_with fail
  go_ret
  exact ⟨rfl, Mk.alloc _ _⟩
set_option maxRecDepth 100000 in
set_option maxHeartbeats 1600000 in
theorem implExpFor (x : TPolicy) (t : Int) (w : World) : Calls Tryz.prog 70 #[.agg #[.int .i64 x.len, .int .i64 x.denied, .int .i64 x.closed, .int .i64 x.life], .int .i64 t] w fun e w' => e = .returned (.int .i64 (minV (wrap64 (t + x.life)) 1000000)) ∧ Mk0 w w' := by
  go_enter Tryz.func70, Tryz.ntmps70
  go_wp2_with fail
  refine (implMin _ _ _).mono ?_
  rintro e w1 ⟨rfl, b1⟩
  go_wp2_with fail
  go_ret
  exact ⟨rfl, (Mk.alloc _ _).trans (Mk.of_below b1)⟩
end Go.Proofs.YtbbcpdgdihdmiaaGreatDoor
