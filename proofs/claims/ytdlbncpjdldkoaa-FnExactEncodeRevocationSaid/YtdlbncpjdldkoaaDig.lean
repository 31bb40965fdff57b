
/- Digests, by the program and by the model. -/
import Derived.Test.YtdlbncpjdldkoaaModM
import Derived.Test.YtdlbncpjdldkoaaMem
namespace Go.Proofs.Ytdlbncpjdldkoaa
open Go.ChangeShapes Go.WideShapes Go.ChangeAt Go.RowKit
set_option linter.unusedVariables false
def digN (zs : List Int) : Nat → Int
  | 0 => 7
  | k + 1 => (digN zs k * 1000003 + modV (zs.getD k 0) 2147483647 + 11) % 2147483647
theorem digN_bd (zs : List Int) (k : Nat) : 0 ≤ digN zs k ∧ digN zs k ≤ 2147483646 := by
  cases k with
  | zero => simp [digN]
  | succ k => simp only [digN]; omega
theorem modV_bd (x : Int) : 0 ≤ modV x 2147483647 ∧ modV x 2147483647 ≤ 2147483646 := by
  have : modV x 2147483647 = x % 2147483647 := if_pos (by omega)
  omega
theorem modV_of (x : Int) : modV x 2147483647 = x % 2147483647 := if_pos (by omega)
theorem fit_at {zs : List Int} (h : ∀ z ∈ zs, (Lit.int .i64 z).wf = true) {i : Nat} (hi : i < zs.length) : -9223372036854775808 ≤ zs.getD i 0 ∧ zs.getD i 0 ≤ 9223372036854775807 := by
  have : zs.getD i 0 ∈ zs := by
    rw [List.getD_eq_getElem?_getD, List.getElem?_eq_getElem hi]
    exact List.getElem_mem _
  exact i64_of (h _ this)

end Go.Proofs.Ytdlbncpjdldkoaa
