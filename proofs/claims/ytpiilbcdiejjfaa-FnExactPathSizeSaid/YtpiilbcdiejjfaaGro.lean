
/- A row of the call's own that grows by calls: only its own block turns. -/
import Derived.Test.YtpiilbcdiejjfaaApp
import Derived.Test.YtpiilbcdiejjfaaAppR
import Derived.Test.YtpiilbcdiejjfaaRow
namespace Go.Proofs.Ytpiilbcdiejjfaa
open Go.ChangeShapes Go.WideShapes Go.ChangeAt Go.RowKit
set_option linter.unusedVariables false
structure Gro (v v' : Value) (w w' : World) : Prop where
  by_ : w.grownBy w' v.ownBlock
  own : v'.ownBlock = v.ownBlock ∨ ∃ b, v'.ownBlock = some b ∧ w.heap.size ≤ b
theorem Gro.refl (v : Value) (w : World) : Gro v v w w := ⟨World.grownBy.refl w _, .inl rfl⟩
theorem Gro.size {v v' : Value} {w w' : World} (h : Gro v v' w w') : w.heap.size ≤ w'.heap.size := h.by_.size
theorem Gro.trans {v v' v'' : Value} {w w' w'' : World} (h : Gro v v' w w') (k : Gro v' v'' w' w'') : Gro v v'' w w'' := by
  refine ⟨⟨k.by_.os.trans h.by_.os, k.by_.tape.trans h.by_.tape, k.by_.output.trans h.by_.output, Nat.le_trans h.by_.size k.by_.size, fun p hp hne => ?_⟩, ?_⟩
  · refine (k.by_.block p (Nat.lt_of_lt_of_le hp h.by_.size) ?_).trans (h.by_.block p hp hne)
    rcases h.own with e | ⟨b, e, hb⟩
    · rw [e]; exact hne
    · rw [e]; intro e'; injection e' with e'; omega
  · rcases k.own with e | ⟨b, e, hb⟩
    · rw [e]; exact h.own
    · exact .inr ⟨b, e, Nat.le_trans h.by_.size hb⟩
theorem Gro.of0 {w w' : World} (m : Mk0 w w') (v : Value) : Gro v v w w' := ⟨⟨m.os, m.tape, m.output, m.size, fun p hp _ => m.block p hp (.inr (Nat.zero_le _))⟩, .inl rfl⟩
theorem Gro.of {v v' : Value} {w w' : World} (h : w.grownBy w' v.ownBlock) (e : v'.ownBlock = v.ownBlock ∨ v'.ownBlock = some w.heap.size) : Gro v v' w w' :=
  ⟨h, e.imp_right fun e => ⟨_, e, Nat.le_refl _⟩⟩
theorem Gro.below {v v' : Value} {w w' : World} {lo : Nat} (h : Gro v v' w w') (hl : ∀ g, v.ownBlock = some g → lo ≤ g) (hlo : lo ≤ w.heap.size) : Below lo w w' :=
  ⟨h.by_.os, h.by_.tape, h.by_.output, h.by_.size, fun p hp => h.by_.block p (by omega) (fun e => by have := hl p e.symm; omega)⟩
theorem Gro.mk0 {v v' : Value} {w0 w w' : World} (h : Gro v v' w w') (m : Mk0 w0 w) (hl : ∀ g, v.ownBlock = some g → w0.heap.size ≤ g) : Mk0 w0 w' := m.appR h.by_ hl
theorem Gro.row {nc : Nat} {α : Type} [Inhabited α] {cell : α → Nat → Value} {lo hi n : Nat} {a : Option Addr} {zs : List α} {v v' : Value} {w w' : World} (h : Gro v v' w w') (o : OwnR nc cell w lo hi a n zs) (hr : ∀ q, v.ownBlock = some q → q < lo ∨ hi ≤ q) (hh : hi ≤ w.heap.size) : OwnR nc cell w' lo hi a n zs := o.grown h.by_ hr hh
theorem Gro.cell {v v' : Value} {w w' : World} (h : Gro v v' w w') {b o : Nat} {u : Value} (hc : w.cell? ⟨b, o, none⟩ = some u) (hr : v.ownBlock ≠ some b) : w'.cell? ⟨b, o, none⟩ = some u :=
  h.by_.cell hc (fun e => hr e.symm)
end Go.Proofs.Ytpiilbcdiejjfaa
