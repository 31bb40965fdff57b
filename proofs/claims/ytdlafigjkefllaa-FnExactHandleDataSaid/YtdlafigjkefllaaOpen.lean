
/- What came in: a struct by value whose fields are one cell each; a slice of structs of one-cell fields. -/
import Derived.Test.YtdlafigjkefllaaRow
import Derived.Deep.Slices
import Derived.Deep.Fields
import Derived.WideShapes
import Derived.ChangeShapes
namespace Go.Proofs.Ytdlafigjkefllaa
open Go Go.RowKit Go.ChangeShapes Go.WideShapes Go.Deep
set_option linter.unusedVariables false
section
variable {H : Type} {enc : TypeId × Value → H} {P : Program} {w : World} {base : Nat} {spare : Nat → Bool} {held : Bool}
theorem open_agg {r : Reach} {b0 : Nat} {t : TypeId} {fs : Array Field} {v : Value} {d : DataW H} {p : List MemPlace}
    (ht : P.underlying t = some (.struct fs)) (hone : oneCellFields P fs = true) (hC : P.cellsOf t = fs.size) (hv : Value.okWide P w r b0 t v) (h : DataW.Trod enc P w base spare held t v d p) :
    ∃ cs : Array Value, v = .agg cs ∧ cs.size = fs.size ∧ ∀ (i : Nat) (f : Field), fs[i]? = some f → ∃ c n y, cs[i]? = some c ∧ DataW.trod enc P w base spare held n f.type [c] = some y := by
  obtain ⟨cs, rfl, hsz⟩ := okWide_struct ht hv
  obtain ⟨fuel, hf⟩ := h
  obtain ⟨xs, n, _, _, _, hlen, hg⟩ := DataW.trod_struct ht hf
  refine ⟨cs, rfl, hsz.trans hC, fun i f hi => ?_⟩
  have hlt : i < fs.size := (Array.getElem?_eq_some_iff.1 hi).1
  have hcs : i < cs.size := by omega
  obtain ⟨ho, hk⟩ := hone_of hone i f hi
  have h1 := hg i f hi
  rw [ho, hk, List.getElem?_eq_getElem (show i < xs.length by omega)] at h1
  have hcell : (((Value.agg cs).cells.toList.drop i).take 1) = [cs[i]] := by
    have hl : (Value.agg cs).cells.toList = cs.toList := rfl
    rw [hl, List.drop_eq_getElem_cons (by simpa using hcs)]
    simp
  rw [hcell] at h1
  exact ⟨cs[i], n, _, Array.getElem?_eq_getElem hcs, h1⟩
theorem one_int {t : TypeId} {n : Nat} {c : Value} {y : DataW H × List MemPlace} (hu : P.underlying t = some (.int .i64)) (h : DataW.trod enc P w base spare held n t [c] = some y) : ∃ z, c = .int .i64 z ∧ (Lit.int .i64 z).wf = true := by
  obtain ⟨z, e, _, hw⟩ := DataW.trod_int hu h
  simp only [List.cons.injEq, and_true] at e
  exact ⟨z, e, hw⟩
theorem one_bool {t : TypeId} {n : Nat} {c : Value} {y : DataW H × List MemPlace} (hu : P.underlying t = some .bool) (h : DataW.trod enc P w base spare held n t [c] = some y) : ∃ b, c = .bool b := by
  obtain ⟨b, e, _⟩ := DataW.trod_bool hu h
  simp only [List.cons.injEq, and_true] at e
  exact ⟨b, e⟩
/-- A slice of structs of one-cell fields, by its cells. -/
theorem open_rows {t e : TypeId} {fs : Array Field} {fuel : Nat} {c : Value} {x : DataW H × List MemPlace} (ht : P.underlying t = some (.slice e)) (he : P.underlying e = some (.struct fs)) (hone : oneCellFields P fs = true) (hC : P.cellsOf e = fs.size) (hpos : 0 < fs.size)
    (h : DataW.trod enc P w base spare held fuel t [c] = some x) :
    ∃ a len cap, c = .slice a len cap ∧ len ≤ maxLen ∧ (0 < len → ∃ b off, a = some ⟨b, off, none⟩ ∧ b < w.heap.size ∧ ∀ i, i < len → ∀ (j : Nat) (f : Field), fs[j]? = some f → ∃ c n y, w.cell? ⟨b, off + (i * fs.size + j), none⟩ = some c ∧ DataW.trod enc P w base spare held n f.type [c] = some y) := by
  rcases open_slice ht h with ⟨hcs, _⟩ | ⟨a, len, cap, m, n, D, Pl, hcs, hb, hl, hm, hmm, _, hx⟩
  · simp only [List.cons.injEq, and_true] at hcs
    exact ⟨none, 0, 0, hcs, Nat.zero_le _, fun h => absurd h (by omega)⟩
  · simp only [List.cons.injEq, and_true] at hcs
    refine ⟨some a, len, cap, hcs, Nat.le_trans hl hm, fun hn => ?_⟩
    have hlm : len ≤ m := by rw [hmm]; split <;> omega
    obtain ⟨b, off, spot⟩ := a
    have each : ∀ i, i < len → ∀ (j : Nat) (f : Field), fs[j]? = some f → ∃ c n y, w.cell? ((⟨b, off, spot⟩ : Addr).add (i * fs.size + j)) = some c ∧ DataW.trod enc P w base spare held n f.type [c] = some y := by
      intro i hi j f hj
      obtain ⟨cs', h1, h2⟩ := hx i (by omega)
      rw [hC] at h1
      obtain ⟨_, hlen, hcell⟩ := World.cells?_some h1
      obtain ⟨xs, k, _, _, _, hxl, hf⟩ := DataW.trod_struct he h2
      have hlt : j < fs.size := (Array.getElem?_eq_some_iff.1 hj).1
      obtain ⟨ho, hk⟩ := hone_of hone j f hj
      have g := hf j f hj
      rw [ho, hk, take1_drop cs' j undef (by omega), List.getElem?_eq_getElem (show j < xs.length by omega)] at g
      refine ⟨_, k, _, ?_, g⟩
      have := hcell j hlt
      rw [add_add, List.getElem?_eq_getElem (show j < cs'.length by omega)] at this
      rw [this]
      simp [List.getD, List.getElem?_eq_getElem (show j < cs'.length by omega)]
    obtain ⟨c0, _, _, hc0, _⟩ := each 0 hn 0 fs[0] (Array.getElem?_eq_getElem hpos)
    obtain rfl : spot = none := by simpa [Addr.add] using World.cell?_spot hc0
    rw [Proofs.Ytdlafigjkefllaa.add_plain] at hc0
    refine ⟨b, off, rfl, World.block_lt_of_cell? w _ hc0, fun i hi j f hj => ?_⟩
    obtain ⟨c, n, y, h1, h2⟩ := each i hi j f hj
    rw [Proofs.Ytdlafigjkefllaa.add_plain] at h1
    exact ⟨c, n, y, h1, h2⟩
/-- A slice of structs of one-cell fields, by its cells. -/
theorem open_rows2 {t e : TypeId} {fs : Array Field} {fuel : Nat} {c : Value} {x : DataW H × List MemPlace} (ht : P.underlying t = some (.slice e)) (he : P.underlying e = some (.struct fs)) (hone : oneCellFields P fs = true) (hC : P.cellsOf e = fs.size) (hpos : 0 < fs.size)
    (h : DataW.trod enc P w base spare held fuel t [c] = some x) :
    ∃ a len cap, c = .slice a len cap ∧ (len ≤ cap ∧ cap ≤ maxLen ∧ (a = none → cap = 0)) ∧ (0 < len → ∃ b off, a = some ⟨b, off, none⟩ ∧ b < w.heap.size ∧ ∀ i, i < len → ∀ (j : Nat) (f : Field), fs[j]? = some f → ∃ c n y, w.cell? ⟨b, off + (i * fs.size + j), none⟩ = some c ∧ DataW.trod enc P w base spare held n f.type [c] = some y) := by
  rcases open_slice ht h with ⟨hcs, _⟩ | ⟨a, len, cap, m, n, D, Pl, hcs, hb, hl, hm, hmm, _, hx⟩
  · simp only [List.cons.injEq, and_true] at hcs
    exact ⟨none, 0, 0, hcs, ⟨Nat.zero_le _, Nat.zero_le _, fun _ => rfl⟩, fun h => absurd h (by omega)⟩
  · simp only [List.cons.injEq, and_true] at hcs
    refine ⟨some a, len, cap, hcs, ⟨hl, hm, fun e => by cases e⟩, fun hn => ?_⟩
    have hlm : len ≤ m := by rw [hmm]; split <;> omega
    obtain ⟨b, off, spot⟩ := a
    have each : ∀ i, i < len → ∀ (j : Nat) (f : Field), fs[j]? = some f → ∃ c n y, w.cell? ((⟨b, off, spot⟩ : Addr).add (i * fs.size + j)) = some c ∧ DataW.trod enc P w base spare held n f.type [c] = some y := by
      intro i hi j f hj
      obtain ⟨cs', h1, h2⟩ := hx i (by omega)
      rw [hC] at h1
      obtain ⟨_, hlen, hcell⟩ := World.cells?_some h1
      obtain ⟨xs, k, _, _, _, hxl, hf⟩ := DataW.trod_struct he h2
      have hlt : j < fs.size := (Array.getElem?_eq_some_iff.1 hj).1
      obtain ⟨ho, hk⟩ := hone_of hone j f hj
      have g := hf j f hj
      rw [ho, hk, take1_drop cs' j undef (by omega), List.getElem?_eq_getElem (show j < xs.length by omega)] at g
      refine ⟨_, k, _, ?_, g⟩
      have := hcell j hlt
      rw [add_add, List.getElem?_eq_getElem (show j < cs'.length by omega)] at this
      rw [this]
      simp [List.getD, List.getElem?_eq_getElem (show j < cs'.length by omega)]
    obtain ⟨c0, _, _, hc0, _⟩ := each 0 hn 0 fs[0] (Array.getElem?_eq_getElem hpos)
    obtain rfl : spot = none := by simpa [Addr.add] using World.cell?_spot hc0
    rw [Proofs.Ytdlafigjkefllaa.add_plain] at hc0
    refine ⟨b, off, rfl, World.block_lt_of_cell? w _ hc0, fun i hi j f hj => ?_⟩
    obtain ⟨c, n, y, h1, h2⟩ := each i hi j f hj
    rw [Proofs.Ytdlafigjkefllaa.add_plain] at h1
    exact ⟨c, n, y, h1, h2⟩
end
/-- From each element to the list. -/
theorem hasR_of {α : Type} [Inhabited α] {nc : Nat} {cell : α → Nat → Value} {Q : α → Prop} {w : World} {B b off n : Nat} (hb : b < B) (h0 : 0 < nc) (hx : ∀ i, i < n → ∃ x : α, Q x ∧ ∀ j, j < nc → w.cell? ⟨b, off + (i * nc + j), none⟩ = some (cell x j)) :
    ∃ zs : List α, HasR nc cell w B (some ⟨b, off, none⟩) n zs ∧ ∀ x ∈ zs, Q x := by
  obtain ⟨f, hf⟩ := choose_lt hx
  have hg : ∀ i, i < n → ((List.range n).map f).getD i default = f i := by
    intro i hi
    simp [List.getD_eq_getElem?_getD, hi]
  refine ⟨(List.range n).map f, ⟨by simp, fun hn => ⟨b, off, rfl, hb, fun j hj => ?_⟩⟩, fun x hxm => ?_⟩
  · have e : j = j / nc * nc + j % nc := by rw [Nat.mul_comm]; exact (Nat.div_add_mod j nc).symm
    have hi' : j / nc < n := Nat.div_lt_of_lt_mul (by rw [Nat.mul_comm]; exact hj)
    have hj' : j % nc < nc := Nat.mod_lt _ h0
    have := (hf _ hi').2 _ hj'
    rw [← e] at this
    rw [this]
    unfold flat
    rw [hg _ hi']
  · obtain ⟨i, hi, rfl⟩ := List.mem_map.1 hxm
    exact (hf i (List.mem_range.1 hi)).1
end Go.Proofs.Ytdlafigjkefllaa
