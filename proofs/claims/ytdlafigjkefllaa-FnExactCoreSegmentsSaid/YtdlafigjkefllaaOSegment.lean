
/- Segment: a slice of them that came in. -/
import Derived.Test.YtdlafigjkefllaaNSegment
import Derived.Test.YtdlafigjkefllaaOpenD
import Derived.Test.YtdlafigjkefllaaOHop
namespace Go.Proofs.Ytdlafigjkefllaa
open Go Go.RowKit Go.ChangeShapes Go.WideShapes Go.Deep
set_option linter.unusedVariables false
def TSegment.fits (x : TSegment) : Prop := (Lit.int .i64 x.ts).wf = true ∧ (Lit.int .i64 x.beta).wf = true ∧ ∀ y ∈ x.hops, THop.fits y
theorem openSegmentC {H : Type} {enc : TypeId × Value → H} {w : World} {base : Nat} {spare : Nat → Bool} {held : Bool} {fuel : Nat} {c : Value} {x : DataW H × List MemPlace} (h : DataW.trod enc Try.prog w base spare held fuel 30 [c] = some x) :
    ∃ a len cap zs, c = .slice a len cap ∧ (len ≤ cap ∧ cap ≤ 9223372036854775807 ∧ (a = none → cap = 0)) ∧ HasSegment w w.heap.size a len zs ∧ ∀ x ∈ zs, TSegment.fits x := by
  obtain ⟨a, len, cap, rfl, ⟨hl, hc, h0⟩, hr⟩ := open_rows2 Try.underlying30 Try.underlying76 (by kernel_rfl) (by kernel_rfl) (by decide) h
  have hl' : len ≤ cap ∧ cap ≤ 9223372036854775807 ∧ (a = none → cap = 0) := ⟨hl, Nat.le_trans hc (by unfold maxLen; omega), h0⟩
  by_cases hz : len = 0
  · subst hz
    exact ⟨a, 0, cap, [], rfl, hl', HasD.none_ _ _ _ _, fun x hx => by cases hx⟩
  · obtain ⟨b, off, rfl, hb, hx⟩ := hr (by omega)
    obtain ⟨zs, h1, h2⟩ := hasD_of ESegment (Q := TSegment.fits) (off := off) hb (fun i hi => by
      obtain ⟨_, _, _, c0, t0⟩ := hx i hi 0 _ rfl
      obtain ⟨v0, rfl, f0⟩ := one_int Try.underlying3 t0
      obtain ⟨_, _, _, c1, t1⟩ := hx i hi 1 _ rfl
      obtain ⟨v1, rfl, f1⟩ := one_int Try.underlying3 t1
      obtain ⟨_, _, _, c2, t2⟩ := hx i hi 2 _ rfl
      obtain ⟨a2, n2, c2_, z2, rfl, ⟨p2, q2, s2⟩, r2, f2⟩ := openHopC t2
      exact ⟨⟨v0, v1, z2⟩, ⟨f0, f1, f2⟩, a2, n2, c2_, c0, c1, c2, r2, p2, q2, s2⟩)
    exact ⟨_, len, cap, zs, rfl, hl', h1, h2⟩
theorem openSegmentS {H : Type} {enc : TypeId × Value → H} {w : World} {base : Nat} {spare : Nat → Bool} {held : Bool} {fuel : Nat} {c : Value} {x : DataW H × List MemPlace} (h : DataW.trod enc Try.prog w base spare held fuel 30 [c] = some x) :
    ∃ a len cap zs, c = .slice a len cap ∧ len ≤ 9223372036854775807 ∧ HasSegment w w.heap.size a len zs ∧ ∀ x ∈ zs, TSegment.fits x := by
  obtain ⟨a, len, cap, zs, e, ⟨h1, h2, _⟩, h3, h4⟩ := openSegmentC h
  exact ⟨a, len, cap, zs, e, Nat.le_trans h1 h2, h3, h4⟩
end Go.Proofs.Ytdlafigjkefllaa
