
/- From the elements that came in to the list, where elements lead to rows. -/
import Derived.Test.YtdlafigjkefllaaOpen
import Derived.Test.YtdlafigjkefllaaNest
namespace Go.Proofs.Ytdlafigjkefllaa
open Go Go.RowKit Go.ChangeShapes Go.WideShapes Go.Deep
set_option linter.unusedVariables false
theorem hasD_of {α : Type} [Inhabited α] (E : El α) {Q : α → Prop} {w : World} {B b off n : Nat} (hb : b < B) (hx : ∀ i, i < n → ∃ x : α, Q x ∧ E.el w B b (off + i * E.nc) x) :
    ∃ zs : List α, HasD E w B (some ⟨b, off, none⟩) n zs ∧ ∀ x ∈ zs, Q x := by
  obtain ⟨f, hf⟩ := choose_lt hx
  have hg : ∀ i, i < n → ((List.range n).map f).getD i default = f i := by
    intro i hi
    simp [List.getD_eq_getElem?_getD, hi]
  refine ⟨(List.range n).map f, ⟨by simp, fun hn => ⟨b, off, rfl, hb, fun i hi => ?_⟩⟩, fun x hxm => ?_⟩
  · rw [hg i hi]; exact (hf i hi).2
  · obtain ⟨i, hi, rfl⟩ := List.mem_map.1 hxm
    exact (hf i (List.mem_range.1 hi)).1
end Go.Proofs.Ytdlafigjkefllaa
