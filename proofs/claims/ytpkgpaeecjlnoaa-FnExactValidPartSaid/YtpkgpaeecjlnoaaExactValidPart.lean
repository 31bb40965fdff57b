
/- For every topology and every part of a path, the law on ValidPart returns true; no further condition. -/
import Derived.Test.YtpkgpaeecjlnoaaExactValidPartA
namespace Go.Proofs.Ytpkgpaeecjlnoaa.fnExactValidPart
open Go.ChangeShapes Go.WideShapes Go.ChangeAt Go.RowKit
open Go.ChangeMaps (open_string shut_string)
set_option linter.unusedVariables false

theorem over : Rows.fnExactValidPartRow.holds Try.pinned (OpenSpec.ofChange Rows.fnExactValidPartSpec) :=
  OpenClaim.holds_of_wide 9 Try.f9 rfl rfl rfl rfl rfl rfl rfl ⟨rfl, rfl, rfl, rfl, rfl⟩ rfl rfl rfl rfl rfl (by kernel_rfl) Try.func9 (by kernel_rfl)
    (of_decide_eq_true (by kernel_rfl)) (by unfold Func.isWrapper; first | (rw [if_pos (by decide +kernel)]; kernel_rfl) | (rw [if_neg (by decide +kernel)]; exact ⟨rfl, rfl⟩))
    (fun os started H enc _ => lifted os started H enc)

theorem proved : Rows.FnExactValidPartSaid := over
#print axioms proved
end Go.Proofs.Ytpkgpaeecjlnoaa.fnExactValidPart
