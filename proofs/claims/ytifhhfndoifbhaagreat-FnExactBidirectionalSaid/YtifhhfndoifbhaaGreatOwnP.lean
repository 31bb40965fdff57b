
/- Hop: rows of them: the laws' marks, by content, and their check. -/
import Derived.Test.YtifhhfndoifbhaaGreatSHop
import Derived.Test.YtifhhfndoifbhaaGreatAppR
namespace Go.Proofs.YtifhhfndoifbhaaGreat
open Go.ChangeShapes Go.WideShapes Go.ChangeAt Go.RowKit
set_option linter.unusedVariables false
def mklHop (k0 : Int) (n : Nat) : List THop := (List.range n).map fun i => ⟨k0 + 5 * ((i : Nat) : Int), k0 + 5 * ((i : Nat) : Int) + 1, k0 + 5 * ((i : Nat) : Int) + 2, k0 + 5 * ((i : Nat) : Int) + 3, k0 + 5 * ((i : Nat) : Int) + 4⟩
theorem mklHop_len (k0 : Int) (n : Nat) : (mklHop k0 n).length = n := by simp [mklHop]
theorem mklHop_at (k0 : Int) {n i : Nat} (h : i < n) : (mklHop k0 n).getD i default = ⟨k0 + 5 * ((i : Nat) : Int), k0 + 5 * ((i : Nat) : Int) + 1, k0 + 5 * ((i : Nat) : Int) + 2, k0 + 5 * ((i : Nat) : Int) + 3, k0 + 5 * ((i : Nat) : Int) + 4⟩ := by simp [mklHop, List.getD_eq_getElem?_getD, h]
theorem fill_pHop {w : World} {b off n i : Nat} {f : Nat → Value} (h : Fill w b off n i f) (hi : i < n) {p : Nat} (hp : p = off + i) {u : Value} (hu : u = f i) : Fill (w.setCell ⟨b, p, none⟩ u) b off n (i + 1) f := by subst hp; exact h.set_ hi hu
end Go.Proofs.YtifhhfndoifbhaaGreat
namespace Go.Proofs.YtifhhfndoifbhaaGreat
open Go Go.RowKit
set_option linter.unusedVariables false
theorem grown_cell {w w' : World} {row : Option Nat} {b o : Nat} {v : Value} (h : w.cell? ⟨b, o, none⟩ = some v) (hg : w.grownBy w' row) (hr : ∀ q, row = some q → q ≠ b) : w'.cell? ⟨b, o, none⟩ = some v := by
  have hb : b < w.heap.size := World.block_lt_of_cell? _ _ h
  have hk : w'.heap[b]? = w.heap[b]? := hg.block b hb (fun e => hr b e.symm rfl)
  exact (World.cell?_of_block (w := w) hk).trans h
theorem grown_frz {w w' : World} {row : Option Nat} {b o : Nat} (hf : w.frozen? ⟨b, o, none⟩ = false) (hb : b < w.heap.size) (hg : w.grownBy w' row) (hr : ∀ q, row = some q → q ≠ b) : w'.frozen? ⟨b, o, none⟩ = false := by
  have hk : w'.heap[b]? = w.heap[b]? := hg.block b hb (fun e => hr b e.symm rfl)
  exact (World.frozen?_of_block (w := w) hk).trans hf
theorem own_put {w : World} {lo nc n : Nat} {e : TypeId} {v : Value} {xs : List Value} (h : w.ownsRow lo e nc v n xs) (p : Addr) (u : Value) (hp : p.block < lo) : (w.setCell p u).ownsRow lo e nc v n xs :=
  h.kept (row := some p.block) (grownBy_setCell w p u) (by
    cases hv : v.ownBlock with
    | none => exact .inl rfl
    | some q => exact .inr (fun e => by injection e with e; have := (h.lt q hv).1; omega))
theorem own_nilR (w : World) (lo : Nat) (e : TypeId) (nc : Nat) : w.ownsRow lo e nc (.slice none 0 0) 0 [] := ⟨by simp, .inl ⟨rfl, rfl⟩⟩
end Go.Proofs.YtifhhfndoifbhaaGreat
