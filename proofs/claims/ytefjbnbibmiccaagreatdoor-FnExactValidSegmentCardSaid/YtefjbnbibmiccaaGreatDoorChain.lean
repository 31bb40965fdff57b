
/- Chains, by the program and by the model. -/
import Derived.Test.YtefjbnbibmiccaaGreatDoorModOps
import Derived.Test.YtefjbnbibmiccaaGreatDoorIntS
import Derived.Test.YtefjbnbibmiccaaGreatDoorDig
namespace Go.Proofs.YtefjbnbibmiccaaGreatDoor
open Go.ChangeShapes Go.WideShapes Go.ChangeAt Go.RowKit
set_option linter.unusedVariables false
def chN (b : Int) (zs : List Int) : Nat → Int
  | 0 => b
  | k + 1 => addM (chN b zs k) (zs.getD k 0)
set_option maxRecDepth 100000 in
set_option maxHeartbeats 800000 in
theorem specChainAdd (x : Int) (a : Option Addr) (n c B : Nat) (zs : List Int) (w : World) (h : Has .i64 w B a n zs) (hn : n ≤ 2097152) :
    Calls Tryz.prog 83 #[.int .i64 x, .slice a n c] w fun e w' => e = .returned (.int .i64 (chN x zs n)) ∧ w = w' := by
  go_enter Tryz.func83, Tryz.ntmps83
  go_wp2
  go_loop [0, 5] (fun s i => ∃ k : Nat, k ≤ n ∧ i = .int .i64 k ∧ s = .int .i64 (chN x zs k)) (fun _ i => n - (intOf i).toNat)
  case atStart => exact ⟨0, Nat.zero_le _, rfl, rfl⟩
  case round =>
    obtain ⟨k, hk, rfl, rfl⟩ := hrel
    by_cases hlt : k < n
    · obtain ⟨b, off, z, rfl, hb, hz, hc⟩ := h.at_ hlt
      go_wp2_with fail
      refine (specAddMod _ _ _).mono ?_
      rintro e w1 ⟨rfl, rfl⟩
      go_wp2_with fail
      go_round
      case rel => exact ⟨k + 1, by omega, by go_num, by rw [hz.out]; rfl⟩
      case measure => simp [intOf]; omega
    · obtain rfl : k = n := by omega
      go_wp2
      go_ret
      exact ⟨rfl, rfl⟩

end Go.Proofs.YtefjbnbibmiccaaGreatDoor
