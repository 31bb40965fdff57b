
/- Sets of small integers: what the program's and the model's functions on one element return. -/
import Derived.Test.YtoicmmandniagaaRows
import Derived.Test.YtoicmmandniagaaSetMath
import Derived.Handy
import Derived.Lib.Hide
namespace Go.Proofs.Ytoicmmandniagaa
open Go.ChangeShapes Go.WideShapes Go.ChangeAt Go.RowKit
set_option linter.unusedVariables false
theorem ret_i {a b : Int} (h : a = b) : Ending.returned (.int .i64 a) = .returned (.int .i64 b) := by rw [h]
theorem ret_b {a b : Bool} (h : a = b) : Ending.returned (.bool a) = .returned (.bool b) := by rw [h]
def setB (s : Int) : Bool := if 0 ≤ s ∧ s ≤ 65535 then true else false
def hasB (s i : Int) : Bool := if 0 ≤ s ∧ s ≤ 65535 ∧ 0 ≤ i ∧ i ≤ 15 then bits .and .i64 (s / 2 ^ i.toNat) 1 == 1 else false
def addV (s i : Int) : Int := if 0 ≤ s ∧ s ≤ 65535 ∧ 0 ≤ i ∧ i ≤ 15 then bits .or .i64 s (wrap64 (2 ^ i.toNat)) else s
def delV (s i : Int) : Int := if 0 ≤ s ∧ s ≤ 65535 ∧ 0 ≤ i ∧ i ≤ 15 then bits .andNot .i64 s (wrap64 (2 ^ i.toNat)) else s
def uniV (a b : Int) : Int := if 0 ≤ a ∧ a ≤ 65535 ∧ 0 ≤ b ∧ b ≤ 65535 then bits .or .i64 a b else 0
def intV (a b : Int) : Int := if 0 ≤ a ∧ a ≤ 65535 ∧ 0 ≤ b ∧ b ≤ 65535 then bits .and .i64 a b else 0
end Go.Proofs.Ytoicmmandniagaa
