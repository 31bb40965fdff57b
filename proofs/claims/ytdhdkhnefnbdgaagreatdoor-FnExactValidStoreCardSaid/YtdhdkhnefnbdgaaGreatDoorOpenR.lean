
/- A slice of structs, structs in them, that came in: its elements' cells. -/
import Derived.Test.YtdhdkhnefnbdgaaGreatDoorOpenN
import Derived.Test.YtdhdkhnefnbdgaaGreatDoorOpenD
namespace Go.Proofs.YtdhdkhnefnbdgaaGreatDoor
open Go Go.RowKit Go.ChangeShapes Go.WideShapes Go.Deep
set_option linter.unusedVariables false
section
variable {H : Type} {enc : TypeId × Value → H} {P : Program} {w : World} {base : Nat} {spare : Nat → Bool} {held : Bool}
theorem open_rowsN {t e : TypeId} {fuel : Nat} {c : Value} {x : DataW H × List MemPlace} (nc : Nat) (ht : P.underlying t = some (.slice e)) (hC : P.cellsOf e = nc) (hpos : 0 < nc)
    (h : DataW.trod enc P w base spare held fuel t [c] = some x) :
    ∃ a len cap, c = .slice a len cap ∧ (len ≤ cap ∧ cap ≤ maxLen ∧ (a = none → cap = 0)) ∧ (0 < len → ∃ b off, a = some ⟨b, off, none⟩ ∧ b < w.heap.size ∧ ∀ i, i < len → ∃ cs : Array Value, cs.size = nc ∧ Lf enc P w base spare held cs 0 nc e ∧ ∀ (j : Nat) (v : Value), cs[j]? = some v → w.cell? ⟨b, off + (i * nc + j), none⟩ = some v) := by
  rcases open_slice ht h with ⟨hcs, _⟩ | ⟨a, len, cap, m, n, D, Pl, hcs, hb, hl, hm, hmm, _, hx⟩
  · simp only [List.cons.injEq, and_true] at hcs
    exact ⟨none, 0, 0, hcs, ⟨Nat.zero_le _, Nat.zero_le _, fun _ => rfl⟩, fun h => absurd h (by omega)⟩
  · simp only [List.cons.injEq, and_true] at hcs
    refine ⟨some a, len, cap, hcs, ⟨hl, hm, fun e => by cases e⟩, fun hn => ?_⟩
    have hlm : len ≤ m := by rw [hmm]; split <;> omega
    obtain ⟨b, off, spot⟩ := a
    have each : ∀ i, i < len → ∃ cs : Array Value, cs.size = nc ∧ Lf enc P w base spare held cs 0 nc e ∧ ∀ (j : Nat) (v : Value), cs[j]? = some v → w.cell? ((⟨b, off, spot⟩ : Addr).add (i * nc + j)) = some v := by
      intro i hi
      obtain ⟨cs', h1, h2⟩ := hx i (by omega)
      rw [hC] at h1
      obtain ⟨_, hlen, hcell⟩ := World.cells?_some h1
      refine ⟨cs'.toArray, by simpa using hlen, ⟨n, _, (congrArg (DataW.trod enc P w base spare held n e) (show (cs'.toArray.toList.drop 0).take nc = cs' by rw [List.drop_zero, List.take_of_length_le (by simp [hlen])])).trans h2⟩, fun j v hj => ?_⟩
      · have hj' : cs'[j]? = some v := by simpa using hj
        have hlt : j < cs'.length := (List.getElem?_eq_some_iff.1 hj').1
        have := hcell j (by omega)
        rw [add_add, hj'] at this
        exact this
    obtain ⟨cs0, hs0, _, hc0⟩ := each 0 hn
    have hc0' := hc0 0 cs0[0] (Array.getElem?_eq_getElem (by omega))
    obtain rfl : spot = none := by simpa [Addr.add] using World.cell?_spot hc0'
    rw [Proofs.YtdhdkhnefnbdgaaGreatDoor.add_plain] at hc0'
    refine ⟨b, off, rfl, World.block_lt_of_cell? w _ hc0', fun i hi => ?_⟩
    obtain ⟨cs, h1, h2, h3⟩ := each i hi
    exact ⟨cs, h1, h2, fun j v hj => by have := h3 j v hj; rw [Proofs.YtdhdkhnefnbdgaaGreatDoor.add_plain] at this; exact this⟩
end
end Go.Proofs.YtdhdkhnefnbdgaaGreatDoor
