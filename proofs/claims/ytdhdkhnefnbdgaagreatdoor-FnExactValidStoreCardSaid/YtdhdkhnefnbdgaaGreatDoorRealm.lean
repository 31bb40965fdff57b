
/- Whether a number is an AS's; whether a row holds a number. -/
import Derived.Test.YtdhdkhnefnbdgaaGreatDoorCTopology
import Derived.Test.YtdhdkhnefnbdgaaGreatDoorInR
import Derived.Test.YtdhdkhnefnbdgaaGreatDoorRow
import Derived.Test.YtdhdkhnefnbdgaaGreatDoorSeen
namespace Go.Proofs.YtdhdkhnefnbdgaaGreatDoor
open Go.ChangeShapes Go.WideShapes Go.ChangeAt Go.RowKit
set_option linter.unusedVariables false
def isAsB (n : Nat) (r : Int) : Bool := decide (0 ≤ r ∧ r < (n : Int))
set_option maxRecDepth 100000 in
set_option maxHeartbeats 4000000 in
theorem specIsAS (a0 a1 : Option Addr) (n0 c0 n1 c1 : Nat) (r : Int) (w : World) (hn : n0 ≤ 1048576) :
    Calls Tryz.prog 21 #[.agg #[.slice a0 n0 c0, .slice a1 n1 c1], .int .i64 r] w fun e w' => e = .returned (.bool (isAsB n0 r)) ∧ Mk0 w w' := by
  by_cases hr : 0 ≤ r ∧ r < (n0 : Int)
  · have HR := Lib.hid (show isAsB n0 r = true from decide_eq_true hr)
    have H := Lib.hid hr
    clear hr
    go_enter Tryz.func21, Tryz.ntmps21
    go_wp2_with fail
    refine (specInYes _ _ _ _ H.out.1 (by have := H.out.2; omega)).mono ?_
    rintro e w' ⟨rfl, rfl⟩
    go_wp2_with fail
    go_ret
    exact ⟨retB HR.out.symm, Mk.alloc _ _⟩
  · have HR := Lib.hid (show isAsB n0 r = false from decide_eq_false hr)
    have H := Lib.hid hr
    clear hr
    go_enter Tryz.func21, Tryz.ntmps21
    go_wp2_with fail
    refine (specInNo _ _ _ _ (by have := H.out; omega)).mono ?_
    rintro e w' ⟨rfl, rfl⟩
    go_wp2_with fail
    go_ret
    exact ⟨retB HR.out.symm, Mk.alloc _ _⟩

set_option maxRecDepth 100000 in
set_option maxHeartbeats 4000000 in
theorem implIsAS (a0 a1 : Option Addr) (n0 c0 n1 c1 : Nat) (r : Int) (w : World) (hn : n0 ≤ 1048576) :
    Calls Tryz.prog 30 #[.agg #[.slice a0 n0 c0, .slice a1 n1 c1], .int .i64 r] w fun e w' => e = .returned (.bool (isAsB n0 r)) ∧ Mk0 w w' := by
  by_cases hr : 0 ≤ r ∧ r < (n0 : Int)
  · have HR := Lib.hid (show isAsB n0 r = true from decide_eq_true hr)
    have H := Lib.hid hr
    clear hr
    go_enter Tryz.func30, Tryz.ntmps30
    go_wp2_with fail
    refine (implInYes _ _ _ _ H.out.1 (by have := H.out.2; omega)).mono ?_
    rintro e w' ⟨rfl, rfl⟩
    go_wp2_with fail
    go_ret
    exact ⟨retB HR.out.symm, Mk.alloc _ _⟩
  · have HR := Lib.hid (show isAsB n0 r = false from decide_eq_false hr)
    have H := Lib.hid hr
    clear hr
    go_enter Tryz.func30, Tryz.ntmps30
    go_wp2_with fail
    refine (implInNo _ _ _ _ (by have := H.out; omega)).mono ?_
    rintro e w' ⟨rfl, rfl⟩
    go_wp2_with fail
    go_ret
    exact ⟨retB HR.out.symm, Mk.alloc _ _⟩

set_option maxRecDepth 100000 in
set_option maxHeartbeats 4000000 in
theorem specHas9 (x : Int) (a : Option Addr) (n c B : Nat) (zs : List Int) (w : World) (h : Has .i64 w B a n zs) (hn : n ≤ 4194304) :
    Calls Tryz.prog 24 #[.slice a n c, .int .i64 x] w fun e w' => e = .returned (.bool (inUp (fun j => zs.getD j 0) x n)) ∧ w = w' := by
  go_enter Tryz.func24, Tryz.ntmps24
  go_wp2_with fail
  go_loop [4, 5] (fun r i => r = .bool false ∧ ∃ k : Nat, k ≤ n ∧ i = .int .i64 k ∧ Hid (inUp (fun j => zs.getD j 0) x k = false)) (fun _ i => n - (intOf i).toNat)
  case atStart => exact ⟨rfl, 0, Nat.zero_le _, rfl, rfl⟩
  case round =>
    obtain ⟨rfl, k, hk, rfl, hS⟩ := hrel
    by_cases hlt : k < n
    · obtain ⟨b, off, z, rfl, hb, hz, c0⟩ := h.at_ hlt
      cases he : (z == x)
      · have HE := Lib.hid (show inUp (fun j => zs.getD j 0) x (k + 1) = false by rw [inUp, hS.out, ← hz.out, he]; rfl)
        go_wp2_with fail
        go_round
        case rel => exact ⟨rfl, k + 1, by omega, by go_num, HE.out⟩
        case measure => simp [intOf]; omega
      · have HE := Lib.hid (show inUp (fun j => zs.getD j 0) x n = true from inUp_mono (k := k + 1) (by rw [inUp, ← hz.out, he]; rfl) (by omega))
        go_wp2_with fail
        go_ret
        exact ⟨retB HE.out.symm, rfl⟩
    · obtain rfl : k = n := by omega
      go_wp2_with fail
      go_ret
      exact ⟨retB hS.out.symm, rfl⟩

end Go.Proofs.YtdhdkhnefnbdgaaGreatDoor
