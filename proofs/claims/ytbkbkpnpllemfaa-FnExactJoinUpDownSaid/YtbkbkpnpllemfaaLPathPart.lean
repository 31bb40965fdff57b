
/- A call that hands back an element, or a row of them, of its own. -/
import Derived.Test.YtbkbkpnpllemfaaWPathPart
namespace Go.Proofs.Ytbkbkpnpllemfaa
open Go.ChangeShapes Go.WideShapes Go.ChangeAt Go.RowKit
set_option linter.unusedVariables false
def OutElPathPart (y : TPathPart) (w : World) (e : Ending) (w' : World) : Prop :=
  ∃ A N C, e = .returned (.agg #[.int .i64 y.kind, .int .i64 y.ts, .int .i64 y.beta, .slice A N C]) ∧ ((A = none → C = 0) ∧ (N ≤ C ∧ C ≤ 9223372036854775807)) ∧ OwnHop w' w.heap.size w'.heap.size A N y.hops ∧ Mk0 w w'
def OutLPathPart (R : List TPathPart) (w : World) (e : Ending) (w' : World) : Prop :=
  ∃ A N C, e = .returned (.slice A N C) ∧ ((A = none → C = 0) ∧ (N ≤ C ∧ C ≤ 9223372036854775807)) ∧ OwnN WPathPart w' w.heap.size w'.heap.size A N R ∧ Mk0 w w'
theorem onePathPart : ∀ (g : HPathPart) (j : Nat), (HPathPart.cell g j).oneCell' = true := fun g j => by unfold HPathPart.cell; split <;> rfl
theorem own0PathPart (w : World) (b : Nat) : WPathPart.kid w b b default default := by
  refine ⟨rfl, rfl, rfl, OwnR.none_ _ _ _ _, Nat.le_refl _, by decide, fun _ => rfl⟩
end Go.Proofs.Ytbkbkpnpllemfaa
