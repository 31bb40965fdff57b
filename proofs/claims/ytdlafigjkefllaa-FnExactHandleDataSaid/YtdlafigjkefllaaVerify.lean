
/- ValidHop of both sides. -/
import Derived.Test.YtdlafigjkefllaaSHop
import Derived.Test.YtdlafigjkefllaaRow
import Derived.Test.YtdlafigjkefllaaCTopology
import Derived.Test.YtdlafigjkefllaaHop
import Derived.Test.YtdlafigjkefllaaInR
import Derived.Deep.RegionHeld3
namespace Go.Proofs.Ytdlafigjkefllaa
open Go.ChangeShapes Go.WideShapes Go.ChangeAt Go.RowKit
set_option linter.unusedVariables false
def hopOk (x : THop) : Bool := decide ((0 ≤ x.nd ∧ x.nd ≤ 7) ∧ (0 ≤ x.ing ∧ x.ing ≤ 6) ∧ (0 ≤ x.eg ∧ x.eg ≤ 6) ∧ x.ing ≠ x.eg ∧ (0 ≤ x.exp ∧ x.exp ≤ 1000000) ∧ (0 ≤ x.mac ∧ x.mac ≤ 2147483646))
end Go.Proofs.Ytdlafigjkefllaa
namespace Go.Proofs.Ytdlafigjkefllaa
open Go.ChangeShapes Go.WideShapes Go.ChangeAt Go.RowKit
set_option linter.unusedVariables false
def vhB (zs : List TAS) (n : Nat) (t b nd ing eg exp mac : Int) : Bool := hopOk ⟨nd, ing, eg, exp, mac⟩ && (decide (nd < n) && (mac == macV (zs.getD nd.toNat default).key (hopL t b nd ing eg exp)))
theorem key_fits {zs : List TAS} {n q : Nat} (hl : zs.length = n) (hq : q < n) (hz : ∀ y ∈ zs, TAS.fits y) {y : TAS} (hy : y = zs.getD q default) : (Lit.int .i64 y.key).wf = true := by
  subst hy
  have : zs.getD q default ∈ zs := by
    rw [List.getD_eq_getElem?_getD, List.getElem?_eq_getElem (by omega)]
    exact List.getElem_mem _
  exact (hz _ this).2

end Go.Proofs.Ytdlafigjkefllaa
