
/- CurrentAS, AtLastHop, CurrentHopValid of both sides. -/
import Derived.Test.YtpfjjfbheliinaaPktP
namespace Go.Proofs.Ytpfjjfbheliinaa
open Go.ChangeShapes Go.WideShapes Go.ChangeAt Go.RowKit
set_option linter.unusedVariables false
end Go.Proofs.Ytpfjjfbheliinaa
namespace Go.Proofs.Ytpfjjfbheliinaa
open Go.ChangeShapes Go.WideShapes Go.ChangeAt Go.RowKit
set_option linter.unusedVariables false
def pkLen (ps : List TPathPart) (pi : Int) : Int := ((ps.getD pi.toNat default).hops.length : Int)
def atLastB (ps : List TPathPart) (n : Nat) (pi hi : Int) : Bool := decide (0 ≤ curAS ps n pi hi) && (pi == (n : Int) - 1) && (hi == pkLen ps pi - 1)
def curValB (ps : List TPathPart) (n : Nat) (pi hi now : Int) : Bool := decide (0 ≤ curAS ps n pi hi) && (decide ((ps.getD pi.toNat default).ts ≤ now) && match pkHop ps n pi hi with | none => false | some q => decide (now ≤ q.exp))
theorem curAS_none {ps : List TPathPart} {n : Nat} {pi hi : Int} (h : pkHop ps n pi hi = none) : curAS ps n pi hi = -1 := by unfold curAS; rw [h]
theorem curAS_some {ps : List TPathPart} {n : Nat} {pi hi : Int} {q : THop} (h : pkHop ps n pi hi = some q) : curAS ps n pi hi = q.nd := by unfold curAS; rw [h]
theorem atLast_neg {ps : List TPathPart} {n : Nat} {pi hi : Int} (h : curAS ps n pi hi < 0) : atLastB ps n pi hi = false := by
  unfold atLastB; rw [decide_eq_false (by omega)]; rfl
theorem curVal_neg {ps : List TPathPart} {n : Nat} {pi hi now : Int} (h : curAS ps n pi hi < 0) : curValB ps n pi hi now = false := by
  unfold curValB; rw [decide_eq_false (by omega)]; rfl
end Go.Proofs.Ytpfjjfbheliinaa
