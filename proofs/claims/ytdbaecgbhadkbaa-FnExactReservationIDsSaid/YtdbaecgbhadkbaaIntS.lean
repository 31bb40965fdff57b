
/- The laws' helpers on slices of integers: the copy, the comparison of equal rows, the marks and their check. -/
import Derived.Test.YtdbaecgbhadkbaaRows
import Derived.Test.YtdbaecgbhadkbaaMem
import Derived.Test.YtdbaecgbhadkbaaInfo
import Derived.Handy
import Derived.OwnWalk
import Derived.Deep.QuietTactic
import Derived.BigQuiet
namespace Go.Proofs.Ytdbaecgbhadkbaa
open Go.ChangeShapes Go.WideShapes Go.ChangeAt Go.RowKit
set_option linter.unusedVariables false

set_option maxRecDepth 100000 in
set_option maxHeartbeats 800000 in
theorem eqInt (a a' : Option Addr) (n c c' B B' : Nat) (zs : List Int) (w : World) (h : Has .i64 w B a n zs) (h' : Has .i64 w B' a' n zs) (hn : n ≤ 1073741824) :
    Calls Try.prog 51 #[.slice a n c, .slice a' n c'] w fun e w' => e = .returned (.bool true) ∧ ∃ m, w' = w.drewN m := by
  go_enter Try.func51, Try.ntmps51
  go_wp2
  go_loopw [4, 5] (fun r i wr => r = .bool false ∧ ∃ k m : Nat, k ≤ n ∧ i = .int .i64 k ∧ wr = w.drewN m) (fun _ i _ => n - (intOf i).toNat)
  case atStart => exact ⟨rfl, 0, 0, Nat.zero_le _, rfl, rfl⟩
  case round =>
    obtain ⟨rfl, k, m, hk, rfl, rfl⟩ := hrel
    by_cases hlt : k < n
    · obtain ⟨b, off, z, rfl, hb, hz, hc⟩ := h.at_ hlt
      obtain ⟨b', off', z', rfl, hb', hz', hc'⟩ := h'.at_ hlt
      obtain rfl : z = z' := hz.out.trans hz'.out.symm
      go_wp2
      go_quiet (fail)
      go_wp2
      go_roundw
      case rel => exact ⟨rfl, k + 1, _, by omega, by go_num, rfl⟩
      case measure => simp [intOf]; omega
    · obtain rfl : k = n := by omega
      go_wp2
      go_ret
      exact ⟨rfl, m, rfl⟩
end Go.Proofs.Ytdbaecgbhadkbaa
