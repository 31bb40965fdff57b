
/- Message: a slice of them that came in. -/
import Derived.Test.YtdlafigjkefllaaNMessage
import Derived.Test.YtdlafigjkefllaaOpenD
import Derived.Test.YtdlafigjkefllaaOByte
namespace Go.Proofs.Ytdlafigjkefllaa
open Go Go.RowKit Go.ChangeShapes Go.WideShapes Go.Deep
set_option linter.unusedVariables false
def TMessage.fits (x : TMessage) : Prop := ∀ y ∈ x.data, TByte.fits y
theorem openMessageC {H : Type} {enc : TypeId × Value → H} {w : World} {base : Nat} {spare : Nat → Bool} {held : Bool} {fuel : Nat} {c : Value} {x : DataW H × List MemPlace} (h : DataW.trod enc Try.prog w base spare held fuel 46 [c] = some x) :
    ∃ a len cap zs, c = .slice a len cap ∧ (len ≤ cap ∧ cap ≤ 9223372036854775807 ∧ (a = none → cap = 0)) ∧ HasMessage w w.heap.size a len zs ∧ ∀ x ∈ zs, TMessage.fits x := by
  obtain ⟨a, len, cap, rfl, ⟨hl, hc, h0⟩, hr⟩ := open_rows2 Try.underlying46 Try.underlying129 (by kernel_rfl) (by kernel_rfl) (by decide) h
  have hl' : len ≤ cap ∧ cap ≤ 9223372036854775807 ∧ (a = none → cap = 0) := ⟨hl, Nat.le_trans hc (by unfold maxLen; omega), h0⟩
  by_cases hz : len = 0
  · subst hz
    exact ⟨a, 0, cap, [], rfl, hl', HasD.none_ _ _ _ _, fun x hx => by cases hx⟩
  · obtain ⟨b, off, rfl, hb, hx⟩ := hr (by omega)
    obtain ⟨zs, h1, h2⟩ := hasD_of EMessage (Q := TMessage.fits) (off := off) hb (fun i hi => by
      obtain ⟨_, _, _, c0, t0⟩ := hx i hi 0 _ rfl
      obtain ⟨a0, n0, c0_, z0, rfl, ⟨p0, q0, s0⟩, r0, f0⟩ := openByteC t0
      exact ⟨⟨z0⟩, f0, a0, n0, c0_, c0, r0, p0, q0, s0⟩)
    exact ⟨_, len, cap, zs, rfl, hl', h1, h2⟩
theorem openMessageS {H : Type} {enc : TypeId × Value → H} {w : World} {base : Nat} {spare : Nat → Bool} {held : Bool} {fuel : Nat} {c : Value} {x : DataW H × List MemPlace} (h : DataW.trod enc Try.prog w base spare held fuel 46 [c] = some x) :
    ∃ a len cap zs, c = .slice a len cap ∧ len ≤ 9223372036854775807 ∧ HasMessage w w.heap.size a len zs ∧ ∀ x ∈ zs, TMessage.fits x := by
  obtain ⟨a, len, cap, zs, e, ⟨h1, h2, _⟩, h3, h4⟩ := openMessageC h
  exact ⟨a, len, cap, zs, e, Nat.le_trans h1 h2, h3, h4⟩
end Go.Proofs.Ytdlafigjkefllaa
