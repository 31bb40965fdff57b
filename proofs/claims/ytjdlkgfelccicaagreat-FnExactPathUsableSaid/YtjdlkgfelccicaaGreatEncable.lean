
/- Encodable of both sides. -/
import Derived.Test.YtjdlkgfelccicaaGreatVHop
import Derived.Test.YtjdlkgfelccicaaGreatCSegment
import Derived.Test.YtjdlkgfelccicaaGreatInR
import Derived.Deep.QuietTactic
import Derived.BigQuiet
namespace Go.Proofs.YtjdlkgfelccicaaGreat
open Go.ChangeShapes Go.WideShapes Go.ChangeAt Go.RowKit
set_option linter.unusedVariables false
def okUp (zs : List THop) : Nat → Bool
  | 0 => true
  | k + 1 => okUp zs k && hopOk (zs.getD k default)
theorem okUp_stop {zs : List THop} {k : Nat} (h : hopOk (zs.getD k default) = false) : ∀ n, k < n → okUp zs n = false
  | 0, hk => absurd hk (by omega)
  | n + 1, hk => by
    rw [okUp]
    by_cases e : k = n
    · subst e; rw [h]; simp
    · rw [okUp_stop h n (by omega)]; rfl
def encB (x0 x1 : Int) (zs : List THop) (n : Nat) : Bool := if (0 ≤ x0 ∧ x0 ≤ 1000000) ∧ (0 ≤ x1 ∧ x1 ≤ 2147483646) ∧ n ≤ 8 then okUp zs n else false
set_option maxRecDepth 100000 in
set_option maxHeartbeats 2000000 in
theorem specResYes (n : Int) (w : World) (h1 : 0 ≤ n) (h2 : n ≤ 2147483646) : Calls Tryz.prog 56 #[.int .i64 n] w fun e w' => e = .returned (.bool true) ∧ w = w' := by
  have dh : decide (n ≤ 2147483646) = true := by simp; omega
  go_enter Tryz.func56, Tryz.ntmps56
  go_wp2_with go_in
  all_goals (go_ret; exact ⟨rfl, rfl⟩)
set_option maxRecDepth 100000 in
set_option maxHeartbeats 2000000 in
theorem specResNo (n : Int) (w : World) (h : n < 0 ∨ 2147483646 < n) : Calls Tryz.prog 56 #[.int .i64 n] w fun e w' => e = .returned (.bool false) ∧ w = w' := by
  by_cases h1 : n < 0
  · go_enter Tryz.func56, Tryz.ntmps56
    go_wp2_with go_in
    all_goals (go_ret; exact ⟨rfl, rfl⟩)
  · have h2 : 0 ≤ n := by omega
    have dh : decide (n ≤ 2147483646) = false := by simp; omega
    have h3 : 2147483646 < n := by omega
    clear h
    go_enter Tryz.func56, Tryz.ntmps56
    go_wp2_with go_in
    all_goals (go_ret; exact ⟨rfl, rfl⟩)
set_option maxRecDepth 100000 in
set_option maxHeartbeats 2000000 in
theorem implTimeYes (n : Int) (w : World) (h1 : 0 ≤ n) (h2 : n ≤ 1000000) : Calls Tryz.prog 65 #[.int .i64 n] w fun e w' => e = .returned (.bool true) ∧ w = w' := by
  have dh : decide (n ≤ 1000000) = true := by simp; omega
  go_enter Tryz.func65, Tryz.ntmps65
  go_wp2_with go_in
  all_goals (go_ret; exact ⟨rfl, rfl⟩)
set_option maxRecDepth 100000 in
set_option maxHeartbeats 2000000 in
theorem implTimeNo (n : Int) (w : World) (h : n < 0 ∨ 1000000 < n) : Calls Tryz.prog 65 #[.int .i64 n] w fun e w' => e = .returned (.bool false) ∧ w = w' := by
  by_cases h1 : n < 0
  · go_enter Tryz.func65, Tryz.ntmps65
    go_wp2_with go_in
    all_goals (go_ret; exact ⟨rfl, rfl⟩)
  · have h2 : 0 ≤ n := by omega
    have dh : decide (n ≤ 1000000) = false := by simp; omega
    have h3 : 1000000 < n := by omega
    clear h
    go_enter Tryz.func65, Tryz.ntmps65
    go_wp2_with go_in
    all_goals (go_ret; exact ⟨rfl, rfl⟩)
set_option maxRecDepth 100000 in
set_option maxHeartbeats 2000000 in
theorem implResYes (n : Int) (w : World) (h1 : 0 ≤ n) (h2 : n ≤ 2147483646) : Calls Tryz.prog 66 #[.int .i64 n] w fun e w' => e = .returned (.bool true) ∧ w = w' := by
  have dh : decide (n ≤ 2147483646) = true := by simp; omega
  go_enter Tryz.func66, Tryz.ntmps66
  go_wp2_with go_in
  all_goals (go_ret; exact ⟨rfl, rfl⟩)
set_option maxRecDepth 100000 in
set_option maxHeartbeats 2000000 in
theorem implResNo (n : Int) (w : World) (h : n < 0 ∨ 2147483646 < n) : Calls Tryz.prog 66 #[.int .i64 n] w fun e w' => e = .returned (.bool false) ∧ w = w' := by
  by_cases h1 : n < 0
  · go_enter Tryz.func66, Tryz.ntmps66
    go_wp2_with go_in
    all_goals (go_ret; exact ⟨rfl, rfl⟩)
  · have h2 : 0 ≤ n := by omega
    have dh : decide (n ≤ 2147483646) = false := by simp; omega
    have h3 : 2147483646 < n := by omega
    clear h
    go_enter Tryz.func66, Tryz.ntmps66
    go_wp2_with go_in
    all_goals (go_ret; exact ⟨rfl, rfl⟩)
end Go.Proofs.YtjdlkgfelccicaaGreat
