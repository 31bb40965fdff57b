/- Equality of hop fields by value. -/
import Derived.Test.YthlikijcapmobaaHop
import Derived.Laws.StructEq
namespace Go.Proofs.Ythlikijcapmobaa
open Go.ChangeShapes Go.WideShapes Go.ChangeAt Go.RowKit
set_option linter.unusedVariables false
def hopEqB (a i e x m a' i' e' x' m' : Int) : Bool := decide (a = a' ∧ i = i' ∧ e = e' ∧ x = x' ∧ m = m')
theorem ret_bb {a b : Bool} (h : a = b) : Ending.returned (.bool a) = .returned (.bool b) := by rw [h]
set_option maxRecDepth 100000 in
set_option maxHeartbeats 1600000 in
theorem specEq (a i e x m a' i' e' x' m' : Int) (w : World) :
    Calls Try.prog 24 #[.agg #[.int .i64 a, .int .i64 i, .int .i64 e, .int .i64 x, .int .i64 m], .agg #[.int .i64 a', .int .i64 i', .int .i64 e', .int .i64 x', .int .i64 m']] w fun en w' => en = .returned (.bool (hopEqB a i e x m a' i' e' x' m')) ∧ Below w.heap.size w w' := by
  go_enter Try.func24, Try.ntmps24
  go_wp2
  all_goals (go_ret; refine ⟨ret_bb ?_, by go_grown⟩; simp_all [hopEqB])
set_option maxRecDepth 100000 in
set_option maxHeartbeats 1600000 in
theorem implEq (a i e x m a' i' e' x' m' : Int) (w : World) :
    Calls Try.prog 25 #[.agg #[.int .i64 a, .int .i64 i, .int .i64 e, .int .i64 x, .int .i64 m], .agg #[.int .i64 a', .int .i64 i', .int .i64 e', .int .i64 x', .int .i64 m']] w fun en w' => en = .returned (.bool (hopEqB a i e x m a' i' e' x' m')) ∧ Below w.heap.size w w' := by
  go_enter Try.func25, Try.ntmps25
  go_wp2
  all_goals (go_ret; refine ⟨ret_bb ?_, by go_grown⟩; simp_all [hopEqB])
theorem toHopB (w0 : World) (a i e x m : Int) (w : World) (h0 : Below w0.heap.size w0 w) :
    Calls Try.prog 10 #[.agg #[.int .i64 a, .int .i64 i, .int .i64 e, .int .i64 x, .int .i64 m]] w fun en w' => en = .returned (.agg #[.int .i64 a, .int .i64 i, .int .i64 e, .int .i64 x, .int .i64 m]) ∧ Below w0.heap.size w0 w' ∧ Below w.heap.size w w' :=
  (toHop a i e x m w).mono fun en w' ⟨h1, h2⟩ => ⟨h1, h0.trans (h2.mono h0.size), h2⟩
theorem specEqB (w0 : World) (a i e x m a' i' e' x' m' : Int) (w : World) (h0 : Below w0.heap.size w0 w) :
    Calls Try.prog 24 #[.agg #[.int .i64 a, .int .i64 i, .int .i64 e, .int .i64 x, .int .i64 m], .agg #[.int .i64 a', .int .i64 i', .int .i64 e', .int .i64 x', .int .i64 m']] w fun en w' => en = .returned (.bool (hopEqB a i e x m a' i' e' x' m')) ∧ Below w0.heap.size w0 w' ∧ Below w.heap.size w w' :=
  (specEq a i e x m a' i' e' x' m' w).mono fun en w' ⟨h1, h2⟩ => ⟨h1, h0.trans (h2.mono h0.size), h2⟩
theorem implEqB (w0 : World) (a i e x m a' i' e' x' m' : Int) (w : World) (h0 : Below w0.heap.size w0 w) :
    Calls Try.prog 25 #[.agg #[.int .i64 a, .int .i64 i, .int .i64 e, .int .i64 x, .int .i64 m], .agg #[.int .i64 a', .int .i64 i', .int .i64 e', .int .i64 x', .int .i64 m']] w fun en w' => en = .returned (.bool (hopEqB a i e x m a' i' e' x' m')) ∧ Below w0.heap.size w0 w' ∧ Below w.heap.size w w' :=
  (implEq a i e x m a' i' e' x' m' w).mono fun en w' ⟨h1, h2⟩ => ⟨h1, h0.trans (h2.mono h0.size), h2⟩
end Go.Proofs.Ythlikijcapmobaa
