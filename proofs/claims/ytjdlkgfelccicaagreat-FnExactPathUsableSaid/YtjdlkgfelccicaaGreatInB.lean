
/- Range tests with one answer. -/
import Derived.Test.YtjdlkgfelccicaaGreatInR
import Derived.Test.YtjdlkgfelccicaaGreatEncable
namespace Go.Proofs.YtjdlkgfelccicaaGreat
open Go.ChangeShapes Go.WideShapes Go.ChangeAt Go.RowKit
set_option linter.unusedVariables false
def inB (n a b : Int) : Bool := decide (a ≤ n ∧ n ≤ b)
theorem specIn (n a b : Int) (w : World) : Calls Tryz.prog 35 #[.int .i64 n, .int .i64 a, .int .i64 b] w fun e w' => e = .returned (.bool (inB n a b)) ∧ w = w' := by
  by_cases h : a ≤ n ∧ n ≤ b
  · rw [show inB n a b = true from decide_eq_true h]; exact specInYes n a b w h.1 h.2
  · rw [show inB n a b = false from decide_eq_false h]; exact specInNo n a b w (by omega)
theorem implIn (n a b : Int) (w : World) : Calls Tryz.prog 42 #[.int .i64 n, .int .i64 a, .int .i64 b] w fun e w' => e = .returned (.bool (inB n a b)) ∧ w = w' := by
  by_cases h : a ≤ n ∧ n ≤ b
  · rw [show inB n a b = true from decide_eq_true h]; exact implInYes n a b w h.1 h.2
  · rw [show inB n a b = false from decide_eq_false h]; exact implInNo n a b w (by omega)
theorem specRes (n : Int) (w : World) : Calls Tryz.prog 56 #[.int .i64 n] w fun e w' => e = .returned (.bool (inB n 0 2147483646)) ∧ w = w' := by
  by_cases h : 0 ≤ n ∧ n ≤ 2147483646
  · rw [show inB n 0 2147483646 = true from decide_eq_true h]; exact specResYes n w h.1 h.2
  · rw [show inB n 0 2147483646 = false from decide_eq_false h]; exact specResNo n w (by omega)
theorem implRes (n : Int) (w : World) : Calls Tryz.prog 66 #[.int .i64 n] w fun e w' => e = .returned (.bool (inB n 0 2147483646)) ∧ w = w' := by
  by_cases h : 0 ≤ n ∧ n ≤ 2147483646
  · rw [show inB n 0 2147483646 = true from decide_eq_true h]; exact implResYes n w h.1 h.2
  · rw [show inB n 0 2147483646 = false from decide_eq_false h]; exact implResNo n w (by omega)
theorem implTime (n : Int) (w : World) : Calls Tryz.prog 65 #[.int .i64 n] w fun e w' => e = .returned (.bool (inB n 0 1000000)) ∧ w = w' := by
  by_cases h : 0 ≤ n ∧ n ≤ 1000000
  · rw [show inB n 0 1000000 = true from decide_eq_true h]; exact implTimeYes n w h.1 h.2
  · rw [show inB n 0 1000000 = false from decide_eq_false h]; exact implTimeNo n w (by omega)
end Go.Proofs.YtjdlkgfelccicaaGreat
