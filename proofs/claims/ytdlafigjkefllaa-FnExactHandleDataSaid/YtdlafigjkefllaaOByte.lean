
/- A slice of bytes that came in, with its capacity. -/
import Derived.Test.YtdlafigjkefllaaOpenN
namespace Go.Proofs.Ytdlafigjkefllaa
open Go Go.RowKit Go.ChangeShapes Go.WideShapes Go.Deep
set_option linter.unusedVariables false
theorem openByteC {H : Type} {enc : TypeId × Value → H} {w : World} {base : Nat} {spare : Nat → Bool} {held : Bool} {fuel : Nat} {c : Value} {x : DataW H × List MemPlace} (h : DataW.trod enc Try.prog w base spare held fuel 52 [c] = some x) :
    ∃ a len cap zs, c = .slice a len cap ∧ (len ≤ cap ∧ cap ≤ 9223372036854775807 ∧ (a = none → cap = 0)) ∧ HasByte w w.heap.size a len zs ∧ ∀ x ∈ zs, TByte.fits x := by
  obtain ⟨a, len, cap, zs, hc, h1, h2, h3⟩ := openByteS h
  refine ⟨a, len, cap, zs, hc, ?_, h2, h3⟩
  rcases open_ints Try.underlying52 Try.underlying5 (by kernel_rfl) h with ⟨hcs, _⟩ | ⟨y, l, cp, zs', hcs, _, hl, hm, _⟩
  · simp only [List.cons.injEq, and_true] at hcs
    rw [hc] at hcs
    injection hcs with e1 e2 e3
    subst e1 e2 e3
    exact ⟨Nat.le_refl _, by omega, fun _ => rfl⟩
  · simp only [List.cons.injEq, and_true] at hcs
    rw [hc] at hcs
    injection hcs with e1 e2 e3
    subst e1 e2 e3
    exact ⟨hl, Nat.le_trans hm (by unfold maxLen; omega), fun e => by cases e⟩
end Go.Proofs.Ytdlafigjkefllaa
