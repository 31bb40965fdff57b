
/- The ends of a segment, by both sides. -/
import Derived.Test.YthpejolljkbenaaDoorCSegment
import Derived.Test.YthpejolljkbenaaDoorRet
namespace Go.Proofs.YthpejolljkbenaaDoor
open Go.ChangeShapes Go.WideShapes Go.ChangeAt Go.RowKit
set_option linter.unusedVariables false
def segFirst (zs : List THop) (n : Nat) : Int := if n = 0 then -1 else (zs.getD 0 default).nd
def segLast (zs : List THop) (n : Nat) : Int := if n = 0 then -1 else (zs.getD (n - 1) default).nd
def segEnds (zs : List THop) (n : Nat) : Bool := if n = 0 then false else decide ((zs.getD (n - 1) default).eg = 0)

set_option maxRecDepth 100000 in
set_option maxHeartbeats 1600000 in
theorem chainOf (x0 x1 : Int) (a : Option Addr) (n c : Nat) (w : World) :
    Calls Tryd.prog 39 #[.agg #[.int .i64 x0, .int .i64 x1, .slice a n c]] w fun e w' => e = .returned (.agg #[.slice a n c, .int .i64 x1]) ∧ Mk0 w w' := by
  go_enter Tryd.func39, Tryd.ntmps39
  go_wp2
  refine bodyPost_ret (v := .agg #[.slice a n c, .int .i64 x1]) (by simp [results, Tryd.results39, go_sem]) rfl ⟨rfl, Mk.of_below ?_⟩
  go_grown

end Go.Proofs.YthpejolljkbenaaDoor
