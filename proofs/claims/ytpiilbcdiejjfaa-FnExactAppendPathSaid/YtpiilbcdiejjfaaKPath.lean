
/- Paths: the laws' marks. -/
import Derived.Test.YtpiilbcdiejjfaaKNPathPart
import Derived.Test.YtpiilbcdiejjfaaCPath
namespace Go.Proofs.Ytpiilbcdiejjfaa
open Go.ChangeShapes Go.WideShapes Go.ChangeAt Go.RowKit
set_option linter.unusedVariables false
set_option maxRecDepth 100000 in
set_option maxHeartbeats 4000000 in
theorem markPathC (a0 : Option Addr) (n0 c0 : Nat) (z0 : List TPathPart) (lo hi : Nat) (k : Int) (w : World) (h0 : OwnPathPart w lo hi a0 n0 z0) (hd0 : lo ≤ hi) (hh : hi ≤ w.heap.size) (hk0 : 0 ≤ k) (hk1 : k ≤ 1073741824) (hn0 : szPathPart z0 n0 ≤ 1048576) :
    Calls Try.prog 55 #[.agg #[.slice a0 n0 c0], .int .i64 k] w fun e w' => ∃ l : Int, (0 ≤ l ∧ l ≤ k + 8388608) ∧ e = .returned (.int .i64 l) ∧ Mk lo hi w w' := by
  have M0 := Mk.alloc w (Obj.cells #[Value.slice a0 n0 c0] 81)
  have hs0 : n0 + sumTo sePathPart z0 n0 ≤ 1048576 := hn0
  go_enter Try.func55, Try.ntmps55
  go_wp2_with fail
  refine (markPathPartSN a0 n0 c0 lo hi k z0 _ (h0.mk M0 hh (.inr (.inr (Nat.le_refl _)))) hn0 hk0 hk1 (Nat.le_trans hh M0.size)).mono ?_
  rintro e w2 ⟨rfl, m2⟩
  go_wp2_with fail
  go_ret
  exact ⟨_, ⟨by omega, by omega⟩, rfl, (M0.wide (.inl (Nat.le_refl _))).trans m2⟩
end Go.Proofs.Ytpiilbcdiejjfaa
