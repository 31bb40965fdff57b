
/- The interfaces of an AS, as lists. -/
import Derived.Test.YtkmofhpipcodbaaSortM
import Derived.Test.YtkmofhpipcodbaaSLink
import Derived.Test.YtkmofhpipcodbaaAppR
import Derived.Test.YtkmofhpipcodbaaApp
namespace Go.Proofs.Ytkmofhpipcodbaa
open Go.ChangeShapes Go.WideShapes Go.ChangeAt Go.RowKit
set_option linter.unusedVariables false
def ifA (r : Int) (x : TLink) : List Int := if x.a = r then [x.ai] else []
def ifB (r : Int) (x : TLink) : List Int := if x.b = r then [x.bi] else []
def ifUp (zl : List TLink) (r : Int) : Nat → List Int
  | 0 => []
  | k + 1 => ifUp zl r k ++ (ifA r (zl.getD k default) ++ ifB r (zl.getD k default))
theorem ifA_le (r : Int) (x : TLink) : (ifA r x).length ≤ 1 := by unfold ifA; split <;> simp
theorem ifB_le (r : Int) (x : TLink) : (ifB r x).length ≤ 1 := by unfold ifB; split <;> simp
theorem ifUp_le (zl : List TLink) (r : Int) : ∀ k, (ifUp zl r k).length ≤ 2 * k
  | 0 => by simp [ifUp]
  | k + 1 => by
    have := ifUp_le zl r k
    have := ifA_le r (zl.getD k default)
    have := ifB_le r (zl.getD k default)
    rw [ifUp, List.length_append, List.length_append]
    omega
/-- What the model knows behind k links. -/
def IfOk (zl : List TLink) (r : Int) (w0 : World) (lo k : Nat) (v : Value) (wr : World) : Prop :=
  ∃ b off N C R, v = .slice (some ⟨b, off, none⟩) N C ∧ Own .i64 wr lo (some ⟨b, off, none⟩) N R ∧ N ≤ C ∧ SL R ∧ (∀ y, y ∈ R ↔ y ∈ ifUp zl r k) ∧ N ≤ 2 * k ∧ Mk0 w0 wr
/-- A call that hands back the interfaces. -/
def OutIfs (w : World) (R : List Int) (e : Ending) (w' : World) : Prop :=
  ∃ A N c, e = .returned (.slice A N c) ∧ (A = none → c = 0) ∧ Own .i64 w' w.heap.size A N R ∧ Below w.heap.size w w'
/-- What the program has gathered: k links, and j of the two ends of the next one. -/
def ifJ (r : Int) (x : TLink) : Nat → List Int
  | 0 => []
  | 1 => ifA r x
  | _ => ifA r x ++ ifB r x
end Go.Proofs.Ytkmofhpipcodbaa
