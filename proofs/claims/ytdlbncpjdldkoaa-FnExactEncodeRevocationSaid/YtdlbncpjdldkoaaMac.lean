
/- The MAC, by the program and by the model. -/
import Derived.Test.YtdlbncpjdldkoaaConcat
import Derived.Test.YtdlbncpjdldkoaaDig
namespace Go.Proofs.Ytdlbncpjdldkoaa
open Go.ChangeShapes Go.WideShapes Go.ChangeAt Go.RowKit
set_option linter.unusedVariables false
def macV (key : Int) (zs : List Int) : Int := digN (key :: (zs ++ [key])) (zs.length + 2)

theorem mac_fits {key : Int} {zs : List Int} (hk : (Lit.int .i64 key).wf = true) (h : ∀ z ∈ zs, (Lit.int .i64 z).wf = true) : ∀ z ∈ [key] ++ zs ++ [key], (Lit.int .i64 z).wf = true := by
  intro z hz
  simp only [List.mem_append, List.mem_singleton] at hz
  rcases hz with (rfl | hz) | rfl
  · exact hk
  · exact h z hz
  · exact hk

end Go.Proofs.Ytdlbncpjdldkoaa
