
/- Sums and differences modulo the prime, by the program and by the model. -/
import Derived.Test.YtbjfcjjfhnjaiaaModM
namespace Go.Proofs.Ytbjfcjjfhnjaiaa
open Go.ChangeShapes Go.WideShapes Go.ChangeAt Go.RowKit
set_option linter.unusedVariables false
def addM (b s : Int) : Int := if 0 ≤ b ∧ b ≤ 2147483646 ∧ 0 ≤ s ∧ s ≤ 2147483646 then (b + s) % 2147483647 else 0
def subM (b s : Int) : Int := if 0 ≤ b ∧ b ≤ 2147483646 ∧ 0 ≤ s ∧ s ≤ 2147483646 then (b - s) % 2147483647 else 0
def keyB (k : Int) : Bool := if 1 ≤ k ∧ k ≤ 2147483646 then true else false
theorem tmod_small {x p : Int} (h1 : x < 0) (h2 : -p < x) : x.tmod p = x := by
  have h3 : (-x).tmod p = -x := Int.tmod_eq_of_lt (by omega) (by omega)
  rw [Int.neg_tmod] at h3
  omega
end Go.Proofs.Ytbjfcjjfhnjaiaa
