
/- Whether a number is an AS's; whether a row holds a number. -/
import Derived.Test.YtkmofhpipcodbaaCTopology
import Derived.Test.YtkmofhpipcodbaaInR
import Derived.Test.YtkmofhpipcodbaaRet
import Derived.Test.YtkmofhpipcodbaaSeen
namespace Go.Proofs.Ytkmofhpipcodbaa
open Go.ChangeShapes Go.WideShapes Go.ChangeAt Go.RowKit
set_option linter.unusedVariables false
def isAsB (n : Nat) (r : Int) : Bool := decide (0 ≤ r ∧ r < (n : Int))
set_option maxRecDepth 100000 in
set_option maxHeartbeats 4000000 in
theorem specHas9 (x : Int) (a : Option Addr) (n c B : Nat) (zs : List Int) (w : World) (h : Has .i64 w B a n zs) (hn : n ≤ 4194304) :
    Calls Try.prog 46 #[.slice a n c, .int .i64 x] w fun e w' => e = .returned (.bool (inUp (fun j => zs.getD j 0) x n)) ∧ w = w' := by
  go_enter Try.func46, Try.ntmps46
  go_wp2_with fail
  go_loop [4, 5] (fun r i => r = .bool false ∧ ∃ k : Nat, k ≤ n ∧ i = .int .i64 k ∧ Hid (inUp (fun j => zs.getD j 0) x k = false)) (fun _ i => n - (intOf i).toNat)
  case atStart => exact ⟨rfl, 0, Nat.zero_le _, rfl, rfl⟩
  case round =>
    obtain ⟨rfl, k, hk, rfl, hS⟩ := hrel
    by_cases hlt : k < n
    · obtain ⟨b, off, z, rfl, hb, hz, c0⟩ := h.at_ hlt
      cases he : (z == x)
      · have HE := Lib.hid (show inUp (fun j => zs.getD j 0) x (k + 1) = false by rw [inUp, hS.out, ← hz.out, he]; rfl)
        go_wp2_with fail
        go_round
        case rel => exact ⟨rfl, k + 1, by omega, by go_num, HE.out⟩
        case measure => simp [intOf]; omega
      · have HE := Lib.hid (show inUp (fun j => zs.getD j 0) x n = true from inUp_mono (k := k + 1) (by rw [inUp, ← hz.out, he]; rfl) (by omega))
        go_wp2_with fail
        go_ret
        exact ⟨retB HE.out.symm, rfl⟩
    · obtain rfl : k = n := by omega
      go_wp2_with fail
      go_ret
      exact ⟨retB hS.out.symm, rfl⟩

end Go.Proofs.Ytkmofhpipcodbaa
