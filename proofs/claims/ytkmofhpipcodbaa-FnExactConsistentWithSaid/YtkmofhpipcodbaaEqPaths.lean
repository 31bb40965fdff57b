
/- Paths and lists of paths compared, by both sides. -/
import Derived.Test.YtkmofhpipcodbaaEqPart
import Derived.Test.YtkmofhpipcodbaaNPath
import Derived.Test.YtkmofhpipcodbaaRet
import Derived.Deep.RegionWith
import Derived.RegionTactic
namespace Go.Proofs.Ytkmofhpipcodbaa
open Go.ChangeShapes Go.WideShapes Go.ChangeAt Go.RowKit
set_option linter.unusedVariables false
def eqUpTo {α : Type} [Inhabited α] (f : α → α → Bool) (zs zs' : List α) : Nat → Bool
  | 0 => true
  | k + 1 => eqUpTo f zs zs' k && f (zs.getD k default) (zs'.getD k default)
theorem eqUpTo_stop {α : Type} [Inhabited α] {f : α → α → Bool} {zs zs' : List α} {k : Nat} (h : f (zs.getD k default) (zs'.getD k default) = false) : ∀ n, k < n → eqUpTo f zs zs' n = false
  | 0, hk => absurd hk (by omega)
  | n + 1, hk => by
    rw [eqUpTo]
    by_cases e : k = n
    · subst e; rw [h]; simp
    · rw [eqUpTo_stop h n (by omega)]; rfl
theorem eqUpTo_go {α : Type} [Inhabited α] {f : α → α → Bool} {zs zs' : List α} {k : Nat} (h0 : eqUpTo f zs zs' k = true) (h : f (zs.getD k default) (zs'.getD k default) = true) : eqUpTo f zs zs' (k + 1) = true := by
  rw [eqUpTo, h0, h]; rfl
def eqListB {α : Type} [Inhabited α] (f : α → α → Bool) (zs zs' : List α) (n n' : Nat) : Bool := if n = n' then eqUpTo f zs zs' n else false
def eqPartT (x y : TPathPart) : Bool := eqPartB x.kind x.ts x.beta y.kind y.ts y.beta x.hops y.hops x.hops.length y.hops.length
def eqPathT (x y : TPath) : Bool := eqListB eqPartT x.parts y.parts x.parts.length y.parts.length

end Go.Proofs.Ytkmofhpipcodbaa
