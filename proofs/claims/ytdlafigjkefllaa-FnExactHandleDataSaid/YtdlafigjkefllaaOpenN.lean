
/- What came in: a struct by value, its cells flat, structs in it and rows of numbers. -/
import Derived.Test.YtdlafigjkefllaaOpen
import Derived.Test.YtdlafigjkefllaaIntR
import Derived.Test.YtdlafigjkefllaaByteR
namespace Go.Proofs.Ytdlafigjkefllaa
open Go Go.RowKit Go.ChangeShapes Go.WideShapes Go.Deep
set_option linter.unusedVariables false
abbrev TInt := Int
def TInt.fits (x : TInt) : Prop := (Lit.int .i64 x).wf = true
section
variable {H : Type} {enc : TypeId × Value → H} {P : Program} {w : World} {base : Nat} {spare : Nat → Bool} {held : Bool}
/-- The cells from o on, k of them, read as a value of type t. -/
def Lf (enc : TypeId × Value → H) (P : Program) (w : World) (base : Nat) (spare : Nat → Bool) (held : Bool) (cs : Array Value) (o k : Nat) (t : TypeId) : Prop :=
  ∃ n y, DataW.trod enc P w base spare held n t ((cs.toList.drop o).take k) = some y
theorem lf_open {r : Reach} {b0 : Nat} {t : TypeId} {fs : Array Field} {v : Value} {d : DataW H} {p : List MemPlace} (N : Nat)
    (ht : P.underlying t = some (.struct fs)) (hC : P.cellsOf t = N) (hv : Value.okWide P w r b0 t v) (h : DataW.Trod enc P w base spare held t v d p) :
    ∃ cs : Array Value, v = .agg cs ∧ cs.size = N ∧ Lf enc P w base spare held cs 0 N t := by
  obtain ⟨cs, rfl, hsz⟩ := okWide_struct ht hv
  obtain ⟨fuel, hf⟩ := h
  have hN : cs.size = N := hsz.trans hC
  refine ⟨cs, rfl, hN, fuel, (d, p), ?_⟩
  have hl : (Value.agg cs).cells.toList = cs.toList := rfl
  rw [hl] at hf
  rw [List.drop_zero, List.take_of_length_le (by simp [hN])]
  exact hf
theorem lf_field {cs : Array Value} {o k a b : Nat} {t : TypeId} {fs : Array Field} (i : Nat) (f : Field) (ht : P.underlying t = some (.struct fs)) (hi : fs[i]? = some f) (ha : f.offset = a) (hb : P.cellsOf f.type = b) (hk : a + b ≤ k)
    (h : Lf enc P w base spare held cs o k t) : Lf enc P w base spare held cs (o + a) b f.type := by
  obtain ⟨n, y, h⟩ := h
  obtain ⟨xs, m, _, _, _, hlen, hg⟩ := DataW.trod_struct ht h
  have hlt : i < fs.size := (Array.getElem?_eq_some_iff.1 hi).1
  have h1 := hg i f hi
  rw [ha, hb, List.getElem?_eq_getElem (show i < xs.length by omega), List.drop_take, List.take_take, List.drop_drop, Nat.min_eq_left (by omega)] at h1
  exact ⟨m, _, h1⟩
theorem lf_leaf {cs : Array Value} {o : Nat} {t : TypeId} (ho : o < cs.size) (h : Lf enc P w base spare held cs o 1 t) : ∃ c n y, cs[o]? = some c ∧ DataW.trod enc P w base spare held n t [c] = some y := by
  obtain ⟨n, y, h⟩ := h
  rw [List.drop_eq_getElem_cons (by simpa using ho)] at h
  exact ⟨_, n, y, by rw [Array.getElem?_eq_getElem ho], by simpa using h⟩
theorem open_num {k : IntKind} {t e : TypeId} {fuel : Nat} {c : Value} {x : DataW H × List MemPlace} (ht : P.underlying t = some (.slice e)) (he : P.underlying e = some (.int k)) (hc : P.cellsOf e = 1) (h : DataW.trod enc P w base spare held fuel t [c] = some x) :
    ∃ a len cap zs, c = .slice a len cap ∧ len ≤ 9223372036854775807 ∧ HasR 1 (icell k) w w.heap.size a len zs ∧ ∀ z ∈ zs, (Lit.int k z).wf = true := by
  rcases open_ints ht he hc h with ⟨hcs, _⟩ | ⟨x, l, cp, zs, hcs, _, hl, hm, hz, _, hcell, hwz⟩
  · simp only [List.cons.injEq, and_true] at hcs
    exact ⟨none, 0, 0, [], hcs, by omega, hasR_int.2 (Has.none_ _ _ _), by simp⟩
  · simp only [List.cons.injEq, and_true] at hcs
    by_cases hs : zs.length = cp
    · have hr : IsRow k w (some x) l cp zs := .inr ⟨x, rfl, hl, hm, hs, hcell, hwz⟩
      exact ⟨some x, l, cp, zs.take l, hcs, isrow_len hr, hasR_int.2 hr.has, hr.fits⟩
    · have hs' : zs.length = l := by rw [hz] at hs ⊢; split at hs <;> simp_all
      have hr : IsRow k w (some x) l l zs := .inr ⟨x, rfl, Nat.le_refl _, Nat.le_trans hl hm, hs', hcell, hwz⟩
      exact ⟨some x, l, cp, zs.take l, hcs, isrow_len hr, hasR_int.2 hr.has, hr.fits⟩
end
theorem openByteS {H : Type} {enc : TypeId × Value → H} {w : World} {base : Nat} {spare : Nat → Bool} {held : Bool} {fuel : Nat} {c : Value} {x : DataW H × List MemPlace} (h : DataW.trod enc Try.prog w base spare held fuel 52 [c] = some x) :
    ∃ a len cap zs, c = .slice a len cap ∧ len ≤ 9223372036854775807 ∧ HasByte w w.heap.size a len zs ∧ ∀ x ∈ zs, TByte.fits x :=
  open_num Try.underlying52 Try.underlying5 (by kernel_rfl) h
theorem openIntS {H : Type} {enc : TypeId × Value → H} {w : World} {base : Nat} {spare : Nat → Bool} {held : Bool} {fuel : Nat} {c : Value} {x : DataW H × List MemPlace} (h : DataW.trod enc Try.prog w base spare held fuel 155 [c] = some x) :
    ∃ a len cap zs, c = .slice a len cap ∧ len ≤ 9223372036854775807 ∧ HasInt w w.heap.size a len zs ∧ ∀ x ∈ zs, TInt.fits x :=
  open_num Try.underlying155 Try.underlying3 (by kernel_rfl) h
end Go.Proofs.Ytdlafigjkefllaa
