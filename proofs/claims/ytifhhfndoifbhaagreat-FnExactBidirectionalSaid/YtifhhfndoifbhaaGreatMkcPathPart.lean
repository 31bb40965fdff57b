
/- PathPart of the call's own; marks by content. -/
import Derived.Test.YtifhhfndoifbhaaGreatCPathPart
import Derived.Test.YtifhhfndoifbhaaGreatOwnP
namespace Go.Proofs.YtifhhfndoifbhaaGreat
open Go.ChangeShapes Go.WideShapes Go.ChangeAt Go.RowKit
set_option linter.unusedVariables false
def OutCPathPart (x0 x1 x2 : Int) (R : List THop) (w : World) (e : Ending) (w' : World) : Prop :=
  ∃ A N C, e = .returned (.agg #[.int .i64 x0, .int .i64 x1, .int .i64 x2, .slice A N C]) ∧ ((A = none → C = 0) ∧ (N ≤ C ∧ C ≤ 9223372036854775807)) ∧ OwnHop w' w.heap.size w'.heap.size A N R ∧ Mk0 w w'
end Go.Proofs.YtifhhfndoifbhaaGreat
