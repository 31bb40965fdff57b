
/- A call that hands back an element, or a row of them, of its own. -/
import Derived.Test.YtdlafigjkefllaaWSegment
namespace Go.Proofs.Ytdlafigjkefllaa
open Go.ChangeShapes Go.WideShapes Go.ChangeAt Go.RowKit
set_option linter.unusedVariables false
def OutElSegment (y : TSegment) (w : World) (e : Ending) (w' : World) : Prop :=
  ∃ A N C, e = .returned (.agg #[.int .i64 y.ts, .int .i64 y.beta, .slice A N C]) ∧ ((A = none → C = 0) ∧ (N ≤ C ∧ C ≤ 9223372036854775807)) ∧ OwnHop w' w.heap.size w'.heap.size A N y.hops ∧ Mk0 w w'
def OutLSegment (R : List TSegment) (w : World) (e : Ending) (w' : World) : Prop :=
  ∃ A N C, e = .returned (.slice A N C) ∧ ((A = none → C = 0) ∧ (N ≤ C ∧ C ≤ 9223372036854775807)) ∧ OwnN WSegment w' w.heap.size w'.heap.size A N R ∧ Mk0 w w'
theorem oneSegment : ∀ (g : HSegment) (j : Nat), (HSegment.cell g j).oneCell' = true := fun g j => by unfold HSegment.cell; split <;> rfl
theorem own0Segment (w : World) (b : Nat) : WSegment.kid w b b default default := by
  refine ⟨rfl, rfl, OwnR.none_ _ _ _ _, Nat.le_refl _, by decide, fun _ => rfl⟩
end Go.Proofs.Ytdlafigjkefllaa
