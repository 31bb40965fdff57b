
/- Parts of a path: reversed kinds, the interfaces at a hop, the value behind i hops, of both sides. -/
import Derived.Test.YtefjbnbibmiccaaGreatDoorCPathPart
import Derived.Test.YtefjbnbibmiccaaGreatDoorRet
import Derived.Test.YtefjbnbibmiccaaGreatDoorInR
import Derived.Test.YtefjbnbibmiccaaGreatDoorModOps
import Derived.Deep.QuietTactic
import Derived.BigQuiet
namespace Go.Proofs.YtefjbnbibmiccaaGreatDoor
open Go.ChangeShapes Go.WideShapes Go.ChangeAt Go.RowKit
set_option linter.unusedVariables false
def revB (k : Int) : Bool := (k == 1) || (k == 3)
def pInV (k : Int) (zs : List THop) (n : Nat) (i : Int) : Int := if 0 ≤ i ∧ i < n then (if revB k = true then (zs.getD i.toNat default).eg else (zs.getD i.toNat default).ing) else 0
def pOutV (k : Int) (zs : List THop) (n : Nat) (i : Int) : Int := if 0 ≤ i ∧ i < n then (if revB k = true then (zs.getD i.toNat default).ing else (zs.getD i.toNat default).eg) else 0
theorem pIn_out {k : Int} {zs : List THop} {n : Nat} {i : Int} (h : i < 0 ∨ (n : Int) ≤ i) : pInV k zs n i = 0 := if_neg (by omega)
theorem pOut_out {k : Int} {zs : List THop} {n : Nat} {i : Int} (h : i < 0 ∨ (n : Int) ≤ i) : pOutV k zs n i = 0 := if_neg (by omega)
theorem pIn_at {k : Int} {zs : List THop} {n q : Nat} {x : THop} (h : q < n) (hx : x = zs.getD q default) : pInV k zs n (q : Int) = if revB k = true then x.eg else x.ing := by
  subst hx; unfold pInV; rw [if_pos ⟨by omega, by omega⟩, show ((q : Nat) : Int).toNat = q by omega]
theorem pOut_at {k : Int} {zs : List THop} {n q : Nat} {x : THop} (h : q < n) (hx : x = zs.getD q default) : pOutV k zs n (q : Int) = if revB k = true then x.ing else x.eg := by
  subst hx; unfold pOutV; rw [if_pos ⟨by omega, by omega⟩, show ((q : Nat) : Int).toNat = q by omega]
def pass (k b m : Int) : Int := if revB k = true then subM b m else addM b m
def passN (k b : Int) (zs : List THop) : Nat → Int
  | 0 => b
  | j + 1 => pass k (passN k b zs j) (zs.getD j default).mac
def afterV (k b : Int) (zs : List THop) (n : Nat) (i : Int) : Int := if 0 ≤ i ∧ i ≤ n then passN k b zs i.toNat else 0
theorem after_in {k b : Int} {zs : List THop} {n q : Nat} (h : q ≤ n) : afterV k b zs n (q : Int) = passN k b zs q := by
  unfold afterV; rw [if_pos ⟨by omega, by omega⟩, show ((q : Nat) : Int).toNat = q by omega]
theorem after_out {k b : Int} {zs : List THop} {n : Nat} {i : Int} (h : i < 0 ∨ (n : Int) < i) : afterV k b zs n i = 0 := if_neg (by omega)
theorem pass_t {k b m : Int} (h : revB k = true) : pass k b m = subM b m := if_pos h
theorem pass_f {k b m : Int} (h : revB k = false) : pass k b m = addM b m := if_neg (by simp [h])

theorem ret_p {a b c d : Int} (h : a = b) (k : c = d) : Ending.returned (.tuple #[.int .i64 b, .int .i64 d]) = .returned (.tuple #[.int .i64 a, .int .i64 c]) := by rw [h, k]

end Go.Proofs.YtefjbnbibmiccaaGreatDoor
