
/- A call that hands back an element, or a row of them, of its own. -/
import Derived.Test.YtdlafigjkefllaaWBeacon
namespace Go.Proofs.Ytdlafigjkefllaa
open Go.ChangeShapes Go.WideShapes Go.ChangeAt Go.RowKit
set_option linter.unusedVariables false
def OutElBeacon (y : TBeacon) (w : World) (e : Ending) (w' : World) : Prop :=
  ∃ A N C, e = .returned (.agg #[.int .i64 y.ing, .int .i64 y.ts, .int .i64 y.beta, .slice A N C]) ∧ ((A = none → C = 0) ∧ (N ≤ C ∧ C ≤ 9223372036854775807)) ∧ OwnHop w' w.heap.size w'.heap.size A N y.hops ∧ Mk0 w w'
def OutLBeacon (R : List TBeacon) (w : World) (e : Ending) (w' : World) : Prop :=
  ∃ A N C, e = .returned (.slice A N C) ∧ ((A = none → C = 0) ∧ (N ≤ C ∧ C ≤ 9223372036854775807)) ∧ OwnN WBeacon w' w.heap.size w'.heap.size A N R ∧ Mk0 w w'
theorem oneBeacon : ∀ (g : HBeacon) (j : Nat), (HBeacon.cell g j).oneCell' = true := fun g j => by unfold HBeacon.cell; split <;> rfl
theorem own0Beacon (w : World) (b : Nat) : WBeacon.kid w b b default default := by
  refine ⟨rfl, rfl, rfl, OwnR.none_ _ _ _ _, Nat.le_refl _, by decide, fun _ => rfl⟩
end Go.Proofs.Ytdlafigjkefllaa
