
/- The ends of a segment, by both sides. -/
import Derived.Test.YtefjbnbibmiccaaDoorCSegment
import Derived.Test.YtefjbnbibmiccaaDoorRet
namespace Go.Proofs.YtefjbnbibmiccaaDoor
open Go.ChangeShapes Go.WideShapes Go.ChangeAt Go.RowKit
set_option linter.unusedVariables false
def segFirst (zs : List THop) (n : Nat) : Int := if n = 0 then -1 else (zs.getD 0 default).nd
def segLast (zs : List THop) (n : Nat) : Int := if n = 0 then -1 else (zs.getD (n - 1) default).nd
def segEnds (zs : List THop) (n : Nat) : Bool := if n = 0 then false else decide ((zs.getD (n - 1) default).eg = 0)

end Go.Proofs.YtefjbnbibmiccaaDoor
