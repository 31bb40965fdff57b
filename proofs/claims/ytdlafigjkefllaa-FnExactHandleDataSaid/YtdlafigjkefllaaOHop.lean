
/- Hop: a slice of them that came in. -/
import Derived.Test.YtdlafigjkefllaaSHop
import Derived.Test.YtdlafigjkefllaaOpen
namespace Go.Proofs.Ytdlafigjkefllaa
open Go Go.RowKit Go.ChangeShapes Go.WideShapes Go.Deep
set_option linter.unusedVariables false
theorem openHopC {H : Type} {enc : TypeId × Value → H} {w : World} {base : Nat} {spare : Nat → Bool} {held : Bool} {fuel : Nat} {c : Value} {x : DataW H × List MemPlace} (h : DataW.trod enc Try.prog w base spare held fuel 74 [c] = some x) :
    ∃ a len cap zs, c = .slice a len cap ∧ (len ≤ cap ∧ cap ≤ 9223372036854775807 ∧ (a = none → cap = 0)) ∧ HasHop w w.heap.size a len zs ∧ ∀ x ∈ zs, THop.fits x := by
  obtain ⟨a, len, cap, rfl, ⟨hl, hc, h0⟩, hr⟩ := open_rows2 Try.underlying74 Try.underlying153 (by kernel_rfl) (by kernel_rfl) (by decide) h
  have hl' : len ≤ cap ∧ cap ≤ 9223372036854775807 ∧ (a = none → cap = 0) := ⟨hl, Nat.le_trans hc (by unfold maxLen; omega), h0⟩
  by_cases hz : len = 0
  · subst hz
    exact ⟨a, 0, cap, [], rfl, hl', HasR.none_ _ _ _, fun x hx => by cases hx⟩
  · obtain ⟨b, off, rfl, hb, hx⟩ := hr (by omega)
    obtain ⟨zs, h1, h2⟩ := hasR_of (cell := THop.cell) (nc := 5) (Q := THop.fits) (off := off) hb (by decide) (fun i hi => by
      obtain ⟨_, _, _, c0, t0⟩ := hx i hi 0 _ rfl
      obtain ⟨v0, rfl, f0⟩ := one_int Try.underlying3 t0
      obtain ⟨_, _, _, c1, t1⟩ := hx i hi 1 _ rfl
      obtain ⟨v1, rfl, f1⟩ := one_int Try.underlying3 t1
      obtain ⟨_, _, _, c2, t2⟩ := hx i hi 2 _ rfl
      obtain ⟨v2, rfl, f2⟩ := one_int Try.underlying3 t2
      obtain ⟨_, _, _, c3, t3⟩ := hx i hi 3 _ rfl
      obtain ⟨v3, rfl, f3⟩ := one_int Try.underlying3 t3
      obtain ⟨_, _, _, c4, t4⟩ := hx i hi 4 _ rfl
      obtain ⟨v4, rfl, f4⟩ := one_int Try.underlying3 t4
      exact ⟨⟨v0, v1, v2, v3, v4⟩, ⟨f0, f1, f2, f3, f4⟩, fun j hj => by match j, hj with | 0, _ => exact c0 | 1, _ => exact c1 | 2, _ => exact c2 | 3, _ => exact c3 | 4, _ => exact c4⟩)
    exact ⟨_, len, cap, zs, rfl, hl', h1, h2⟩
theorem openHopS {H : Type} {enc : TypeId × Value → H} {w : World} {base : Nat} {spare : Nat → Bool} {held : Bool} {fuel : Nat} {c : Value} {x : DataW H × List MemPlace} (h : DataW.trod enc Try.prog w base spare held fuel 74 [c] = some x) :
    ∃ a len cap zs, c = .slice a len cap ∧ len ≤ 9223372036854775807 ∧ HasHop w w.heap.size a len zs ∧ ∀ x ∈ zs, THop.fits x := by
  obtain ⟨a, len, cap, zs, e, ⟨h1, h2, _⟩, h3, h4⟩ := openHopC h
  exact ⟨a, len, cap, zs, e, Nat.le_trans h1 h2, h3, h4⟩
end Go.Proofs.Ytdlafigjkefllaa
