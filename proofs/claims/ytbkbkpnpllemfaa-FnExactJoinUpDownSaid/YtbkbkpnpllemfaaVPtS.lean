
/- What ValidPart calls. -/
import Derived.Test.YtbkbkpnpllemfaaRealm
import Derived.Test.YtbkbkpnpllemfaaWF
import Derived.Test.YtbkbkpnpllemfaaTurn
import Derived.Test.YtbkbkpnpllemfaaWs
import Derived.Test.YtbkbkpnpllemfaaBetaAt
import Derived.Test.YtbkbkpnpllemfaaAppR
import Derived.Test.YtbkbkpnpllemfaaContI
import Derived.Test.YtbkbkpnpllemfaaSeen
namespace Go.Proofs.Ytbkbkpnpllemfaa
open Go.ChangeShapes Go.WideShapes Go.ChangeAt Go.RowKit
set_option linter.unusedVariables false
/-- Behind hop q, the next one. -/
def leadB (zl : List TLink) (n1 : Nat) (kd : Int) (zs : List THop) (n q : Nat) : Bool :=
  (pOutV kd zs n (q : Int) != 0) && (((remote zl (zs.getD q default).nd (pOutV kd zs n (q : Int)) n1).1 == (zs.getD (q + 1) default).nd) && ((remote zl (zs.getD q default).nd (pOutV kd zs n (q : Int)) n1).2 == pInV kd zs n ((q + 1 : Nat) : Int)))
def vpI (n0 : Nat) (zl : List TLink) (n1 : Nat) (kd : Int) (zs : List THop) (n k : Nat) : Bool :=
  hopOk (zs.getD k default) && (isAsB n0 (zs.getD k default).nd && (!inUp (ndAt zs) (zs.getD k default).nd k && (k == 0 || leadB zl n1 kd zs n (k - 1))))
def vpH (x0 x1 x2 : Int) (n : Nat) : Bool := inB x0 1 4 && (inB x1 0 1000000 && (inB x2 0 2147483646 && inB (n : Int) 1 8))
def vpB (n0 : Nat) (zl : List TLink) (n1 : Nat) (x0 x1 x2 : Int) (zs : List THop) (n : Nat) : Bool := vpH x0 x1 x2 n && allN (vpI n0 zl n1 x0 zs n) n
theorem vp_nd {zs : List THop} {k n : Nat} {n0 : Nat} {zl : List TLink} {n1 : Nat} {kd : Int} (h : allN (vpI n0 zl n1 kd zs n) k = true) : ∀ j, j < k → 0 ≤ ndAt zs j ∧ ndAt zs j ≤ 15 := by
  intro j hj
  have h1 := (allN_iff _ _).1 h j hj
  simp only [vpI, Bool.and_eq_true, hopOk, decide_eq_true_eq] at h1
  have := h1.1.1
  unfold ndAt
  omega
set_option maxRecDepth 100000 in
set_option maxHeartbeats 4000000 in
theorem implPK (k : Int) (w : World) : Calls Try.prog 47 #[.int .i64 k] w fun e w' => e = .returned (.bool (inB k 1 4)) ∧ Mk0 w w' := by
  by_cases e1 : k = 1
  · subst e1
    go_enter Try.func47, Try.ntmps47
    go_wp2_with fail
    refine (kindIs1 _).mono ?_
    rintro e w2 ⟨rfl, m2⟩
    go_wp2_with fail
    go_ret
    exact ⟨rfl, m2⟩
  by_cases e2 : k = 2
  · subst e2
    go_enter Try.func47, Try.ntmps47
    go_wp2_with fail
    refine (kindIs2 _).mono ?_
    rintro e w2 ⟨rfl, m2⟩
    go_wp2_with fail
    go_ret
    exact ⟨rfl, m2⟩
  by_cases e3 : k = 3
  · subst e3
    go_enter Try.func47, Try.ntmps47
    go_wp2_with fail
    refine (kindIs3 _).mono ?_
    rintro e w2 ⟨rfl, m2⟩
    go_wp2_with fail
    go_ret
    exact ⟨rfl, m2⟩
  by_cases e4 : k = 4
  · subst e4
    go_enter Try.func47, Try.ntmps47
    go_wp2_with fail
    refine (kindIs4 _).mono ?_
    rintro e w2 ⟨rfl, m2⟩
    go_wp2_with fail
    go_ret
    exact ⟨rfl, m2⟩
  have HR := Lib.hid (show inB k 1 4 = false by unfold inB; exact decide_eq_false (by omega))
  have f1 : (k == 1) = false := by simpa using e1
  clear e1
  have f2 : (k == 2) = false := by simpa using e2
  clear e2
  have f3 : (k == 3) = false := by simpa using e3
  clear e3
  have f4 : (k == 4) = false := by simpa using e4
  clear e4
  go_enter Try.func47, Try.ntmps47
  go_wp2_with fail
  refine (kindIs0 k _ f1 f2 f3 f4).mono ?_
  rintro e w2 ⟨rfl, m2⟩
  go_wp2_with fail
  go_ret
  exact ⟨retB HR.out.symm, m2⟩

/-- A call that hands back a new row of numbers that it owns whole. -/
def OutOwnN (e : TypeId) (w : World) (R : List Int) (en : Ending) (w' : World) : Prop :=
  ∃ v, en = .returned v ∧ w'.ownsRow w.heap.size e 1 v R.length (R.map (.int .i64)) ∧ Mk0 w w'
theorem OutOwnN.of {w w' : World} {R : List Int} {v : Value} {n : Nat} {e : TypeId} (h : w'.ownsRow w.heap.size e 1 v n (R.map (.int .i64))) (hb : Mk0 w w') : OutOwnN e w R (.returned v) w' := by
  have hl : n = R.length := by have := h.1; simp at this; omega
  subst hl
  exact ⟨v, rfl, h, hb⟩
end Go.Proofs.Ytbkbkpnpllemfaa
namespace Go.Proofs.Ytbkbkpnpllemfaa
open Go.ChangeShapes Go.WideShapes Go.ChangeAt Go.RowKit
set_option linter.unusedVariables false
end Go.Proofs.Ytbkbkpnpllemfaa
namespace Go.Proofs.Ytbkbkpnpllemfaa
open Go.ChangeShapes Go.WideShapes Go.ChangeAt Go.RowKit
set_option linter.unusedVariables false
end Go.Proofs.Ytbkbkpnpllemfaa
