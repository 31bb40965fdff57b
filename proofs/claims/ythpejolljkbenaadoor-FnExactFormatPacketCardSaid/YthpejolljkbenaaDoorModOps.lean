
/- The remainder, by the program and by the model. -/
import Derived.Test.YthpejolljkbenaaDoorBase
import Derived.Test.YthpejolljkbenaaDoorRows
import Derived.Handy
import Derived.Below
import Derived.Lib.Hide
namespace Go.Proofs.YthpejolljkbenaaDoor
open Go.ChangeShapes Go.WideShapes Go.ChangeAt Go.RowKit
set_option linter.unusedVariables false
def modV (n m : Int) : Int := if 1 ≤ m ∧ m ≤ 1000000000000 then n % m else 0
theorem ret_int {a b : Int} (h : a = b) : Ending.returned (.int .i64 a) = .returned (.int .i64 b) := by rw [h]
theorem ret_bool {a b : Bool} (h : a = b) : Ending.returned (.bool a) = .returned (.bool b) := by rw [h]
theorem tmod_emod (a b : Int) (h : 0 < b) : a % b = if a.tmod b < 0 then a.tmod b + b else a.tmod b := by
  have h1 := Int.tmod_lt_of_pos a h
  have h2 := Int.lt_tmod_of_pos a h
  have h3 : a = b * a.tdiv b + a.tmod b := (Int.mul_tdiv_add_tmod a b).symm
  have h4 : a % b = a.tmod b % b := by
    have : (b * a.tdiv b + a.tmod b) % b = a.tmod b % b := by rw [Int.add_comm, Int.add_mul_emod_self_left]
    rw [← h3] at this; exact this
  rw [h4]
  by_cases c : a.tmod b < 0
  · rw [if_pos c, ← Int.add_emod_right]; exact Int.emod_eq_of_lt (by omega) (by omega)
  · rw [if_neg c]; exact Int.emod_eq_of_lt (by omega) h1

end Go.Proofs.YthpejolljkbenaaDoor
namespace Go.Proofs.YthpejolljkbenaaDoor
open Go.ChangeShapes Go.WideShapes Go.ChangeAt Go.RowKit
set_option linter.unusedVariables false
def addM (b s : Int) : Int := if 0 ≤ b ∧ b ≤ 2147483646 ∧ 0 ≤ s ∧ s ≤ 2147483646 then (b + s) % 2147483647 else 0
def subM (b s : Int) : Int := if 0 ≤ b ∧ b ≤ 2147483646 ∧ 0 ≤ s ∧ s ≤ 2147483646 then (b - s) % 2147483647 else 0
def keyB (k : Int) : Bool := if 1 ≤ k ∧ k ≤ 2147483646 then true else false
theorem tmod_small {x p : Int} (h1 : x < 0) (h2 : -p < x) : x.tmod p = x := by
  have h3 : (-x).tmod p = -x := Int.tmod_eq_of_lt (by omega) (by omega)
  rw [Int.neg_tmod] at h3
  omega
end Go.Proofs.YthpejolljkbenaaDoor
