
/- What a return hands on, at an equal value. -/
import Derived.WalkKit
namespace Go.Proofs.Ytoicmmandniagaa
open Go
theorem retI {a b : Int} (h : a = b) : Ending.returned (.int .i64 a) = .returned (.int .i64 b) := by rw [h]
theorem retB {a b : Bool} (h : a = b) : Ending.returned (.bool a) = .returned (.bool b) := by rw [h]
end Go.Proofs.Ytoicmmandniagaa
