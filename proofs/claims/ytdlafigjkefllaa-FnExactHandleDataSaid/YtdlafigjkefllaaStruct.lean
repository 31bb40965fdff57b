
/- A struct by value whose fields are numbers and yes or no: what its cells are. -/
import Derived.Test.YtdlafigjkefllaaRow
import Derived.Deep.Fields
import Derived.WideShapes
import Derived.ChangeShapes
namespace Go.Proofs.Ytdlafigjkefllaa
open Go Go.RowKit Go.ChangeShapes Go.WideShapes Go.Deep
set_option linter.unusedVariables false
theorem open_flat {H : Type} {enc : TypeId × Value → H} {P : Program} {w : World} {base : Nat} {spare : Nat → Bool} {held : Bool} {r : Reach} {b0 : Nat} {t : TypeId} {fs : Array Field} {v : Value} {d : DataW H} {p : List MemPlace}
    (ht : P.underlying t = some (.struct fs)) (hone : oneCellFields P fs = true) (hC : P.cellsOf t = fs.size) (hv : Value.okWide P w r b0 t v) (h : DataW.Trod enc P w base spare held t v d p) :
    ∃ cs : Array Value, v = .agg cs ∧ cs.size = fs.size ∧ ∀ (i : Nat) (f : Field), fs[i]? = some f →
      ∃ c, cs[i]? = some c ∧ (P.underlying f.type = some (.int .i64) → ∃ z, c = .int .i64 z ∧ (Lit.int .i64 z).wf = true) ∧ (P.underlying f.type = some .bool → ∃ b, c = .bool b) := by
  obtain ⟨cs, rfl, hsz⟩ := okWide_struct ht hv
  obtain ⟨fuel, hf⟩ := h
  obtain ⟨xs, n, _, _, _, hlen, hg⟩ := DataW.trod_struct ht hf
  refine ⟨cs, rfl, hsz.trans hC, fun i f hi => ?_⟩
  have hlt : i < fs.size := (Array.getElem?_eq_some_iff.1 hi).1
  have hcs : i < cs.size := by omega
  obtain ⟨ho, hk⟩ := hone_of hone i f hi
  have h1 := hg i f hi
  rw [ho, hk, List.getElem?_eq_getElem (show i < xs.length by omega)] at h1
  have hcell : (((Value.agg cs).cells.toList.drop i).take 1) = [cs[i]] := by
    have hl : (Value.agg cs).cells.toList = cs.toList := rfl
    rw [hl, List.drop_eq_getElem_cons (by simpa using hcs)]
    simp
  rw [hcell] at h1
  refine ⟨cs[i], Array.getElem?_eq_getElem hcs, fun hu => ?_, fun hu => ?_⟩
  · obtain ⟨z, e, _, hw⟩ := DataW.trod_int hu h1
    simp only [List.cons.injEq, and_true] at e
    exact ⟨z, e, hw⟩
  · obtain ⟨b, e, _⟩ := DataW.trod_bool hu h1
    simp only [List.cons.injEq, and_true] at e
    exact ⟨b, e⟩
theorem arr_of (L : List Value) {cs : Array Value} (h : cs.size = L.length) (he : ∀ j, j < L.length → cs[j]? = L[j]?) : cs = L.toArray := by
  apply Array.ext'
  apply List.ext_getElem?
  intro j
  by_cases hj : j < L.length
  · have := he j hj
    simpa using this
  · rw [List.getElem?_eq_none (by simp; omega), List.getElem?_eq_none (by simp; omega)]
end Go.Proofs.Ytdlafigjkefllaa
