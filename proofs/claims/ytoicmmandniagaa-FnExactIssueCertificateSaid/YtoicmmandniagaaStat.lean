
/- What a hop states, by the program; lists of the numbers of hops. -/
import Derived.Test.YtoicmmandniagaaApp
import Derived.Test.YtoicmmandniagaaSHop
namespace Go.Proofs.Ytoicmmandniagaa
open Go.ChangeShapes Go.WideShapes Go.ChangeAt Go.RowKit
set_option linter.unusedVariables false
def hopF (x : THop) : List Int := [x.nd, x.ing, x.eg, x.exp, x.mac]
def hopsN (hs : List THop) : Nat → List Int
  | 0 => []
  | k + 1 => hopsN hs k ++ hopF (hs.getD k default)
theorem hopsN_len (hs : List THop) : ∀ k, (hopsN hs k).length = 5 * k
  | 0 => rfl
  | k + 1 => by rw [hopsN, List.length_append, hopsN_len hs k]; simp [hopF]; omega
theorem lit_has (w : World) (e : TypeId) (zs : List Int) (n : Nat) (hn : n = zs.length) : Has .i64 (w.alloc (.cells (zs.map (Value.int .i64)).toArray e)) (w.alloc (.cells (zs.map (Value.int .i64)).toArray e)).heap.size (some ⟨w.heap.size, 0, none⟩) n zs := by
  subst hn
  refine ⟨rfl, fun _ => ⟨_, 0, rfl, by simp, fun i hi => ?_⟩⟩
  rw [World.cell?_alloc_at _ _ _ _ rfl]
  simp [List.getD_eq_getElem?_getD, hi]
theorem own_kept {w w' : World} {lo n : Nat} {e : TypeId} {v : Value} {xs : List Value} (h : w.ownsRow lo e 1 v n xs) (m : Mk0 w w') : w'.ownsRow lo e 1 v n xs :=
  h.kept (row := none) ⟨m.os, m.tape, m.output, m.size, fun g hg _ => m.block g hg (.inr (Nat.zero_le _))⟩ (by cases hv : v.ownBlock with | none => exact .inl rfl | some g => exact .inr (by simp))
/-- What a call's growth at its own row leaves alone. -/
theorem Mk.app {w0 w w' : World} {g : Option Nat} (h : Mk0 w0 w) (hg : w.grownBy w' g) (hr : ∀ q, g = some q → w0.heap.size ≤ q) : Mk0 w0 w' :=
  ⟨hg.os.trans h.os, hg.tape.trans h.tape, hg.output.trans h.output, Nat.le_trans h.size hg.size, fun k hk hr' => (hg.block k (Nat.lt_of_lt_of_le hk h.size) (fun e => by have := hr _ e.symm; omega)).trans (h.block k hk hr')⟩

end Go.Proofs.Ytoicmmandniagaa
