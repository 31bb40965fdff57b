
/- The functions that append encodings, by the program and by the model. -/
import Derived.Test.YtdlafigjkefllaaVarint
import Derived.Test.YtdlafigjkefllaaBetaAt
namespace Go.Proofs.Ytdlafigjkefllaa
open Go.ChangeShapes Go.WideShapes Go.ChangeAt Go.RowKit
set_option linter.unusedVariables false
/-- A call hands back a new row of bytes, and changes nothing that was there. -/
def OutB (w : World) (R : List Int) (e : Ending) (w' : World) : Prop :=
  ∃ v, e = .returned v ∧ w'.ownsRow w.heap.size 5 1 v R.length (R.map (.int .u8)) ∧ Below w.heap.size w w'
theorem OutB.of {w w' : World} {R : List Int} {v : Value} {n : Nat} (h : w'.ownsRow w.heap.size 5 1 v n (R.map (.int .u8))) (hb : Below w.heap.size w w') : OutB w R (.returned v) w' := by
  have hl : n = R.length := by have := h.1; simp at this; omega
  subst hl
  exact ⟨v, rfl, h, hb⟩
theorem OutB.r {w w' : World} {R : List Int} {e : Ending} (h : OutB w R e w') : OutR .u8 w R e w' := by
  obtain ⟨v, rfl, ho, hb⟩ := h
  exact OutR.of ho hb
theorem own_empty (w : World) (e : TypeId) : (w.alloc (.cells #[] e)).ownsRow w.heap.size e 1 (.slice (some ⟨w.heap.size, 0, none⟩) 0 0) 0 (([] : List Int).map (.int .u8)) := own_lit w e [] (by simp)

end Go.Proofs.Ytdlafigjkefllaa
