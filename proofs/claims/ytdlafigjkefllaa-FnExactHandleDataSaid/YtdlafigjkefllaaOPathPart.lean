
/- PathPart: a slice of them that came in. -/
import Derived.Test.YtdlafigjkefllaaNPathPart
import Derived.Test.YtdlafigjkefllaaOpenD
import Derived.Test.YtdlafigjkefllaaOHop
namespace Go.Proofs.Ytdlafigjkefllaa
open Go Go.RowKit Go.ChangeShapes Go.WideShapes Go.Deep
set_option linter.unusedVariables false
def TPathPart.fits (x : TPathPart) : Prop := (Lit.int .i64 x.kind).wf = true ∧ (Lit.int .i64 x.ts).wf = true ∧ (Lit.int .i64 x.beta).wf = true ∧ ∀ y ∈ x.hops, THop.fits y
theorem openPathPartC {H : Type} {enc : TypeId × Value → H} {w : World} {base : Nat} {spare : Nat → Bool} {held : Bool} {fuel : Nat} {c : Value} {x : DataW H × List MemPlace} (h : DataW.trod enc Try.prog w base spare held fuel 49 [c] = some x) :
    ∃ a len cap zs, c = .slice a len cap ∧ (len ≤ cap ∧ cap ≤ 9223372036854775807 ∧ (a = none → cap = 0)) ∧ HasPathPart w w.heap.size a len zs ∧ ∀ x ∈ zs, TPathPart.fits x := by
  obtain ⟨a, len, cap, rfl, ⟨hl, hc, h0⟩, hr⟩ := open_rows2 Try.underlying49 Try.underlying146 (by kernel_rfl) (by kernel_rfl) (by decide) h
  have hl' : len ≤ cap ∧ cap ≤ 9223372036854775807 ∧ (a = none → cap = 0) := ⟨hl, Nat.le_trans hc (by unfold maxLen; omega), h0⟩
  by_cases hz : len = 0
  · subst hz
    exact ⟨a, 0, cap, [], rfl, hl', HasD.none_ _ _ _ _, fun x hx => by cases hx⟩
  · obtain ⟨b, off, rfl, hb, hx⟩ := hr (by omega)
    obtain ⟨zs, h1, h2⟩ := hasD_of EPathPart (Q := TPathPart.fits) (off := off) hb (fun i hi => by
      obtain ⟨_, _, _, c0, t0⟩ := hx i hi 0 _ rfl
      obtain ⟨v0, rfl, f0⟩ := one_int Try.underlying3 t0
      obtain ⟨_, _, _, c1, t1⟩ := hx i hi 1 _ rfl
      obtain ⟨v1, rfl, f1⟩ := one_int Try.underlying3 t1
      obtain ⟨_, _, _, c2, t2⟩ := hx i hi 2 _ rfl
      obtain ⟨v2, rfl, f2⟩ := one_int Try.underlying3 t2
      obtain ⟨_, _, _, c3, t3⟩ := hx i hi 3 _ rfl
      obtain ⟨a3, n3, c3_, z3, rfl, ⟨p3, q3, s3⟩, r3, f3⟩ := openHopC t3
      exact ⟨⟨v0, v1, v2, z3⟩, ⟨f0, f1, f2, f3⟩, a3, n3, c3_, c0, c1, c2, c3, r3, p3, q3, s3⟩)
    exact ⟨_, len, cap, zs, rfl, hl', h1, h2⟩
theorem openPathPartS {H : Type} {enc : TypeId × Value → H} {w : World} {base : Nat} {spare : Nat → Bool} {held : Bool} {fuel : Nat} {c : Value} {x : DataW H × List MemPlace} (h : DataW.trod enc Try.prog w base spare held fuel 49 [c] = some x) :
    ∃ a len cap zs, c = .slice a len cap ∧ len ≤ 9223372036854775807 ∧ HasPathPart w w.heap.size a len zs ∧ ∀ x ∈ zs, TPathPart.fits x := by
  obtain ⟨a, len, cap, zs, e, ⟨h1, h2, _⟩, h3, h4⟩ := openPathPartC h
  exact ⟨a, len, cap, zs, e, Nat.le_trans h1 h2, h3, h4⟩
end Go.Proofs.Ytdlafigjkefllaa
