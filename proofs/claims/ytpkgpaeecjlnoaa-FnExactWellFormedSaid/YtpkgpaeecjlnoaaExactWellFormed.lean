
/- For every topology and every segment, the law on WellFormed returns true; no further condition. -/
import Derived.Test.YtpkgpaeecjlnoaaExactWellFormedA
namespace Go.Proofs.Ytpkgpaeecjlnoaa.fnExactWellFormed
open Go.ChangeShapes Go.WideShapes Go.ChangeAt Go.RowKit
open Go.ChangeMaps (open_string shut_string)
set_option linter.unusedVariables false

theorem over : Rows.fnExactWellFormedRow.holds Try.pinned (OpenSpec.ofChange Rows.fnExactWellFormedSpec) :=
  OpenClaim.holds_of_wide 3 Try.f3 rfl rfl rfl rfl rfl rfl rfl ⟨rfl, rfl, rfl, rfl, rfl⟩ rfl rfl rfl rfl rfl (by kernel_rfl) Try.func3 (by kernel_rfl)
    (of_decide_eq_true (by kernel_rfl)) (by unfold Func.isWrapper; first | (rw [if_pos (by decide +kernel)]; kernel_rfl) | (rw [if_neg (by decide +kernel)]; exact ⟨rfl, rfl⟩))
    (fun os started H enc _ => lifted os started H enc)

theorem proved : Rows.FnExactWellFormedSaid := over
#print axioms proved
end Go.Proofs.Ytpkgpaeecjlnoaa.fnExactWellFormed
