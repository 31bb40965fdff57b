
/- ReadBytes, by the program and by the model. -/
import Derived.Test.YtoicmmandniagaaRead
import Derived.Test.YtoicmmandniagaaBytesOps
namespace Go.Proofs.Ytoicmmandniagaa
open Go.ChangeShapes Go.WideShapes Go.ChangeAt Go.RowKit
set_option linter.unusedVariables false
/-- The bytes that are read, and the offset behind them. -/
def rbAt (zs : List Int) (x most : Int) : Option (List Int × Nat) :=
  match rdAt zs x with
  | none => none
  | some (n, s) => if most < (n : Int) ∨ (zs.length : Int) - s < n then none else some ((zs.drop s).take n, s + n)
/-- A new row, a number and a yes or no. -/
def Out3 (k : IntKind) (w : World) (R : List Int) (x : Int) (y : Bool) (e : Ending) (w' : World) : Prop :=
  ∃ A N c, e = .returned (.tuple #[.slice A N c, .int .i64 x, .bool y]) ∧ (A = none → c = 0) ∧ Own k w' w.heap.size A N R ∧ Below w.heap.size w w'
theorem Out3.of {k : IntKind} {w w' : World} {R : List Int} {x : Int} {y : Bool} {v : Value} {n : Nat} {e : TypeId} (h : w'.ownsRow w.heap.size e 1 v n (R.map (.int k))) (hb : Below w.heap.size w w') : Out3 k w R x y (.returned (.tuple #[v, .int .i64 x, .bool y])) w' := by
  obtain ⟨A, c, rfl, hc⟩ := ownsRow_slice h
  exact ⟨A, n, c, rfl, hc, ownsRow_own h, hb⟩
theorem has_cut {k : IntKind} {w : World} {B b off n s m : Nat} {zs : List Int} (h : Has k w B (some ⟨b, off, none⟩) n zs) (hs : s + m ≤ n) : Has k w B (some ⟨b, off + s, none⟩) m ((zs.drop s).take m) := by
  have hl := h.1
  refine ⟨by simp; omega, fun hm => ?_⟩
  obtain ⟨b', off', he, hb, hc⟩ := h.2 (by omega)
  simp only [Option.some.injEq, Addr.mk.injEq, and_true] at he
  obtain ⟨rfl, rfl⟩ := he
  refine ⟨b, off + s, rfl, hb, fun i hi => ?_⟩
  rw [Nat.add_assoc, hc (s + i) (by omega)]
  simp [List.getD_eq_getElem?_getD, hi, List.getElem?_drop]
theorem has_zero (k : IntKind) (w : World) (B : Nat) (a : Option Addr) : Has k w B a 0 [] := ⟨rfl, fun h => absurd h (by omega)⟩
theorem rb_none {zs : List Int} {x most : Int} (h : rdAt zs x = none) : rbAt zs x most = none := by unfold rbAt; rw [h]
theorem rb_no {zs : List Int} {x most : Int} {n s : Nat} (h : rdAt zs x = some (n, s)) (h' : most < (n : Int) ∨ (zs.length : Int) - s < n) : rbAt zs x most = none := by unfold rbAt; rw [h]; simp only [if_pos h']
theorem rb_yes {zs : List Int} {x most : Int} {n s : Nat} (h : rdAt zs x = some (n, s)) (h' : ¬ (most < (n : Int) ∨ (zs.length : Int) - s < n)) : rbAt zs x most = some ((zs.drop s).take n, s + n) := by unfold rbAt; rw [h]; simp only [if_neg h']

def rbR : Option (List Int × Nat) → List Int
  | some (l, _) => l
  | none => []
def rbX : Option (List Int × Nat) → Int
  | some (_, m) => (m : Int)
  | none => 0
def rbY : Option (List Int × Nat) → Bool
  | some _ => true
  | none => false

theorem rbR_len (zs : List Int) (x most : Int) : (rbR (rbAt zs x most)).length ≤ zs.length := by
  unfold rbAt
  split
  · simp [rbR]
  · split
    · simp [rbR]
    · simp [rbR]; omega

end Go.Proofs.Ytoicmmandniagaa
