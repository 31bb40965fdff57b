
/- The ends of a segment, by both sides. -/
import Derived.Test.YtifhhfndoifbhaaGreatCSegment
import Derived.Test.YtifhhfndoifbhaaGreatRow
import Derived.Test.YtifhhfndoifbhaaGreatDig
import Derived.Test.YtifhhfndoifbhaaGreatRows
import Derived.Handy
import Derived.OwnWalk
import Derived.Deep.QuietTactic
import Derived.BigQuiet
import Derived.Test.YtifhhfndoifbhaaGreatInR
import Derived.Deep.RegionHeld3
namespace Go.Proofs.YtifhhfndoifbhaaGreat
open Go.ChangeShapes Go.WideShapes Go.ChangeAt Go.RowKit
set_option linter.unusedVariables false
def segFirst (zs : List THop) (n : Nat) : Int := if n = 0 then -1 else (zs.getD 0 default).nd
def segLast (zs : List THop) (n : Nat) : Int := if n = 0 then -1 else (zs.getD (n - 1) default).nd
def segEnds (zs : List THop) (n : Nat) : Bool := if n = 0 then false else decide ((zs.getD (n - 1) default).eg = 0)

end Go.Proofs.YtifhhfndoifbhaaGreat
namespace Go.Proofs.YtifhhfndoifbhaaGreat
open Go.ChangeShapes Go.WideShapes Go.ChangeAt Go.RowKit
set_option linter.unusedVariables false
/-- One field of the first k hops. -/
def colN (f : THop → Int) (zs : List THop) : Nat → List Int
  | 0 => []
  | k + 1 => colN f zs k ++ [f (zs.getD k default)]
theorem colN_len (f : THop → Int) (zs : List THop) : ∀ k, (colN f zs k).length = k
  | 0 => rfl
  | k + 1 => by rw [colN, List.length_append, colN_len f zs k]; rfl
theorem colN_get (f : THop → Int) (zs : List THop) : ∀ k j, j < k → (colN f zs k).getD j 0 = f (zs.getD j default)
  | 0, j, h => absurd h (by omega)
  | k + 1, j, h => by
    have hl := colN_len f zs k
    rw [colN, List.getD_eq_getElem?_getD]
    by_cases hj : j < k
    · rw [List.getElem?_append_left (by omega), ← List.getD_eq_getElem?_getD]
      exact colN_get f zs k j hj
    · obtain rfl : j = k := by omega
      rw [List.getElem?_append_right (by omega), hl, Nat.sub_self]
      rfl

end Go.Proofs.YtifhhfndoifbhaaGreat
namespace Go.Proofs.YtifhhfndoifbhaaGreat
open Go.ChangeShapes Go.WideShapes Go.ChangeAt Go.RowKit
set_option linter.unusedVariables false

end Go.Proofs.YtifhhfndoifbhaaGreat
namespace Go.Proofs.YtifhhfndoifbhaaGreat
open Go.ChangeShapes Go.WideShapes Go.ChangeAt Go.RowKit
set_option linter.unusedVariables false
def chN (b : Int) (zs : List Int) : Nat → Int
  | 0 => b
  | k + 1 => addM (chN b zs k) (zs.getD k 0)
end Go.Proofs.YtifhhfndoifbhaaGreat
namespace Go.Proofs.YtifhhfndoifbhaaGreat
open Go.ChangeShapes Go.WideShapes Go.ChangeAt Go.RowKit
set_option linter.unusedVariables false
def betaV (x1 : Int) (zs : List THop) (n : Nat) (i : Int) : Int := if 0 ≤ i ∧ i ≤ n then chN x1 (colN THop.mac zs i.toNat) i.toNat else 0
theorem betaV_in {x1 : Int} {zs : List THop} {n q : Nat} (h : q ≤ n) : betaV x1 zs n (q : Int) = chN x1 (colN THop.mac zs q) q := by
  unfold betaV
  rw [if_pos ⟨by omega, by omega⟩, show ((q : Nat) : Int).toNat = q by omega]
theorem betaV_out {x1 : Int} {zs : List THop} {n : Nat} {i : Int} (h : i < 0 ∨ (n : Int) < i) : betaV x1 zs n i = 0 := if_neg (by omega)
theorem has_cut {f : THop → Int} {w : World} {g n q B : Nat} {zs : List THop} (h : Has .i64 w B (some ⟨g, 0, none⟩) n (colN f zs n)) (hq : q ≤ n) : Has .i64 w B (some ⟨g, 0, none⟩) q (colN f zs q) :=
  ⟨colN_len _ _ _, fun h0 => by
    obtain ⟨b, off, e, hb, hc⟩ := h.2 (by omega)
    refine ⟨b, off, e, hb, fun i hi => ?_⟩
    rw [hc i (by omega), colN_get _ _ _ _ (by omega), colN_get _ _ _ _ hi]⟩

end Go.Proofs.YtifhhfndoifbhaaGreat
