
/- Whether a number is an AS's; whether a row holds a number. -/
import Derived.Test.YtoicmmandniagaaCTopology
import Derived.Test.YtoicmmandniagaaInR
import Derived.Test.YtoicmmandniagaaRet
import Derived.Test.YtoicmmandniagaaSeen
namespace Go.Proofs.Ytoicmmandniagaa
open Go.ChangeShapes Go.WideShapes Go.ChangeAt Go.RowKit
set_option linter.unusedVariables false
def isAsB (n : Nat) (r : Int) : Bool := decide (0 ≤ r ∧ r < (n : Int))
set_option maxRecDepth 100000 in
set_option maxHeartbeats 4000000 in
theorem specIsAS (a0 a1 : Option Addr) (n0 c0 n1 c1 : Nat) (r : Int) (w : World) (hn : n0 ≤ 1048576) :
    Calls Try.prog 25 #[.agg #[.slice a0 n0 c0, .slice a1 n1 c1], .int .i64 r] w fun e w' => e = .returned (.bool (isAsB n0 r)) ∧ Mk0 w w' := by
  by_cases hr : 0 ≤ r ∧ r < (n0 : Int)
  · have HR := Lib.hid (show isAsB n0 r = true from decide_eq_true hr)
    have H := Lib.hid hr
    clear hr
    go_enter Try.func25, Try.ntmps25
    go_wp2_with fail
    refine (specInYes _ _ _ _ H.out.1 (by have := H.out.2; omega)).mono ?_
    rintro e w' ⟨rfl, rfl⟩
    go_wp2_with fail
    go_ret
    exact ⟨retB HR.out.symm, Mk.alloc _ _⟩
  · have HR := Lib.hid (show isAsB n0 r = false from decide_eq_false hr)
    have H := Lib.hid hr
    clear hr
    go_enter Try.func25, Try.ntmps25
    go_wp2_with fail
    refine (specInNo _ _ _ _ (by have := H.out; omega)).mono ?_
    rintro e w' ⟨rfl, rfl⟩
    go_wp2_with fail
    go_ret
    exact ⟨retB HR.out.symm, Mk.alloc _ _⟩

set_option maxRecDepth 100000 in
set_option maxHeartbeats 4000000 in
theorem implIsAS (a0 a1 : Option Addr) (n0 c0 n1 c1 : Nat) (r : Int) (w : World) (hn : n0 ≤ 1048576) :
    Calls Try.prog 31 #[.agg #[.slice a0 n0 c0, .slice a1 n1 c1], .int .i64 r] w fun e w' => e = .returned (.bool (isAsB n0 r)) ∧ Mk0 w w' := by
  by_cases hr : 0 ≤ r ∧ r < (n0 : Int)
  · have HR := Lib.hid (show isAsB n0 r = true from decide_eq_true hr)
    have H := Lib.hid hr
    clear hr
    go_enter Try.func31, Try.ntmps31
    go_wp2_with fail
    refine (implInYes _ _ _ _ H.out.1 (by have := H.out.2; omega)).mono ?_
    rintro e w' ⟨rfl, rfl⟩
    go_wp2_with fail
    go_ret
    exact ⟨retB HR.out.symm, Mk.alloc _ _⟩
  · have HR := Lib.hid (show isAsB n0 r = false from decide_eq_false hr)
    have H := Lib.hid hr
    clear hr
    go_enter Try.func31, Try.ntmps31
    go_wp2_with fail
    refine (implInNo _ _ _ _ (by have := H.out; omega)).mono ?_
    rintro e w' ⟨rfl, rfl⟩
    go_wp2_with fail
    go_ret
    exact ⟨retB HR.out.symm, Mk.alloc _ _⟩

end Go.Proofs.Ytoicmmandniagaa
