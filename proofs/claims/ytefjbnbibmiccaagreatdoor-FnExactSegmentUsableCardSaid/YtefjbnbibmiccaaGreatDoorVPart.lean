
/- VerifyPart of both sides. -/
import Derived.Test.YtefjbnbibmiccaaGreatDoorPart
import Derived.Test.YtefjbnbibmiccaaGreatDoorVerify
namespace Go.Proofs.YtefjbnbibmiccaaGreatDoor
open Go.ChangeShapes Go.WideShapes Go.ChangeAt Go.RowKit
set_option linter.unusedVariables false
/-- The value that hop k's MAC covers. -/
def atV (k b : Int) (hs : List THop) (j : Nat) : Int := if revB k = true then passN k b hs (j + 1) else passN k b hs j
def vhT (zs : List TAS) (n : Nat) (t b : Int) (x : THop) : Bool := vhB zs n t b x.nd x.ing x.eg x.exp x.mac
def vpTo (zs : List TAS) (n0 : Nat) (k t b : Int) (hs : List THop) : Nat → Bool
  | 0 => true
  | j + 1 => vpTo zs n0 k t b hs j && vhT zs n0 t (atV k b hs j) (hs.getD j default)
theorem vpTo_stop {zs : List TAS} {n0 : Nat} {k t b : Int} {hs : List THop} {j : Nat} (h : vhT zs n0 t (atV k b hs j) (hs.getD j default) = false) : ∀ n, j < n → vpTo zs n0 k t b hs n = false
  | 0, hk => absurd hk (by omega)
  | n + 1, hk => by
    rw [vpTo]
    by_cases e : j = n
    · subst e; rw [h]; simp
    · rw [vpTo_stop h n (by omega)]; rfl
theorem vpTo_go {zs : List TAS} {n0 : Nat} {k t b : Int} {hs : List THop} {j : Nat} (h0 : vpTo zs n0 k t b hs j = true) (h : vhT zs n0 t (atV k b hs j) (hs.getD j default) = true) : vpTo zs n0 k t b hs (j + 1) = true := by
  rw [vpTo, h0, h]; rfl
theorem addM_fits (b s : Int) : (Lit.int .i64 (addM b s)).wf = true := by
  have e1 : IntKind.i64.min = -9223372036854775808 := by decide
  have e2 : IntKind.i64.max = 9223372036854775807 := by decide
  simp only [Lit.wf, Bool.and_eq_true, decide_eq_true_eq]
  rw [e1, e2]
  unfold addM
  split <;> omega
theorem subM_fits (b s : Int) : (Lit.int .i64 (subM b s)).wf = true := by
  have e1 : IntKind.i64.min = -9223372036854775808 := by decide
  have e2 : IntKind.i64.max = 9223372036854775807 := by decide
  simp only [Lit.wf, Bool.and_eq_true, decide_eq_true_eq]
  rw [e1, e2]
  unfold subM
  split <;> omega
theorem pass_fits (k b m : Int) : (Lit.int .i64 (pass k b m)).wf = true := by
  unfold pass; split
  · exact subM_fits _ _
  · exact addM_fits _ _
theorem passN_fits {k b : Int} (hb : (Lit.int .i64 b).wf = true) (hs : List THop) : ∀ j, (Lit.int .i64 (passN k b hs j)).wf = true
  | 0 => hb
  | j + 1 => pass_fits _ _ _
theorem atV_fits {k b : Int} (hb : (Lit.int .i64 b).wf = true) (hs : List THop) (j : Nat) : (Lit.int .i64 (atV k b hs j)).wf = true := by
  unfold atV; split <;> exact passN_fits hb hs _
theorem hopfit {hs : List THop} {n j : Nat} (hl : hs.length = n) (hj : j < n) (hf : ∀ y ∈ hs, THop.fits y) {x : THop} (hx : x = hs.getD j default) : THop.fits x := by
  subst hx
  have : hs.getD j default ∈ hs := by
    rw [List.getD_eq_getElem?_getD, List.getElem?_eq_getElem (by omega)]
    exact List.getElem_mem _
  exact hf _ this
theorem hopL_fits {t b : Int} (ht : (Lit.int .i64 t).wf = true) (hb : (Lit.int .i64 b).wf = true) {x : THop} (hx : THop.fits x) : ∀ z ∈ hopL t b x.nd x.ing x.eg x.exp, (Lit.int .i64 z).wf = true :=
  hop_fits ht hb hx.1 hx.2.1 hx.2.2.1 hx.2.2.2.1

end Go.Proofs.YtefjbnbibmiccaaGreatDoor
