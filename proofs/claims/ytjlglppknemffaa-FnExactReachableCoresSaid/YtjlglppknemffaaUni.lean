
/- Union of both sides. -/
import Derived.Test.YtjlglppknemffaaSetOps
namespace Go.Proofs.Ytjlglppknemffaa
open Go.ChangeShapes Go.WideShapes Go.ChangeAt Go.RowKit
set_option linter.unusedVariables false
set_option maxRecDepth 100000 in
set_option maxHeartbeats 4000000 in
theorem implUni (a b : Int) (w : World) :
    Calls Try.prog 101 #[.int .i64 a, .int .i64 b] w fun e w' => e = .returned (.int .i64 (uniV a b)) ∧ w = w' := by
  by_cases cl1 : 0 ≤ a
  · by_cases ch1 : a ≤ 65535
    · have dh1 : decide (a ≤ 65535) = true := by simp; omega
      by_cases cl2 : 0 ≤ b
      · by_cases ch2 : b ≤ 65535
        · have dh2 : decide (b ≤ 65535) = true := by simp; omega
          have hv : uniV a b = bits .or .i64 a b := if_pos ⟨by omega, by omega, by omega, by omega⟩
          have HV := Lib.hid hv
          clear hv
          go_enter Try.func101, Try.ntmps101
          go_wp2_with go_in
          all_goals (go_ret; exact ⟨ret_i HV.out.symm, rfl⟩)
        · have dh2 : decide (b ≤ 65535) = false := by simp; omega
          have hv : uniV a b = 0 := if_neg (by omega)
          have HV := Lib.hid hv
          clear hv
          go_enter Try.func101, Try.ntmps101
          go_wp2_with go_in
          all_goals (go_ret; exact ⟨ret_i HV.out.symm, rfl⟩)
      · have dl2 : b < 0 := by omega
        have hv : uniV a b = 0 := if_neg (by omega)
        have HV := Lib.hid hv
        clear hv
        go_enter Try.func101, Try.ntmps101
        go_wp2_with go_in
        all_goals (go_ret; exact ⟨ret_i HV.out.symm, rfl⟩)
    · have dh1 : decide (a ≤ 65535) = false := by simp; omega
      have hv : uniV a b = 0 := if_neg (by omega)
      have HV := Lib.hid hv
      clear hv
      go_enter Try.func101, Try.ntmps101
      go_wp2_with go_in
      all_goals (go_ret; exact ⟨ret_i HV.out.symm, rfl⟩)
  · have dl1 : a < 0 := by omega
    have hv : uniV a b = 0 := if_neg (by omega)
    have HV := Lib.hid hv
    clear hv
    go_enter Try.func101, Try.ntmps101
    go_wp2_with go_in
    all_goals (go_ret; exact ⟨ret_i HV.out.symm, rfl⟩)
set_option maxRecDepth 100000 in
set_option maxHeartbeats 4000000 in
theorem specUni (a b : Int) (w : World) :
    Calls Try.prog 79 #[.int .i64 a, .int .i64 b] w fun e w' => e = .returned (.int .i64 (uniV a b)) ∧ w = w' := by
  by_cases cl1 : 0 ≤ a
  · by_cases ch1 : a ≤ 65535
    · have dh1 : decide (a ≤ 65535) = true := by simp; omega
      by_cases cl2 : 0 ≤ b
      · by_cases ch2 : b ≤ 65535
        · have dh2 : decide (b ≤ 65535) = true := by simp; omega
          have hv : uniV a b = bits .or .i64 a b := if_pos ⟨by omega, by omega, by omega, by omega⟩
          have HV := Lib.hid hv
          clear hv
          go_enter Try.func79, Try.ntmps79
          go_wp2_with go_in
          all_goals (go_ret; exact ⟨ret_i HV.out.symm, rfl⟩)
        · have dh2 : decide (b ≤ 65535) = false := by simp; omega
          have hv : uniV a b = 0 := if_neg (by omega)
          have HV := Lib.hid hv
          clear hv
          go_enter Try.func79, Try.ntmps79
          go_wp2_with go_in
          all_goals (go_ret; exact ⟨ret_i HV.out.symm, rfl⟩)
      · have dl2 : b < 0 := by omega
        have hv : uniV a b = 0 := if_neg (by omega)
        have HV := Lib.hid hv
        clear hv
        go_enter Try.func79, Try.ntmps79
        go_wp2_with go_in
        all_goals (go_ret; exact ⟨ret_i HV.out.symm, rfl⟩)
    · have dh1 : decide (a ≤ 65535) = false := by simp; omega
      have hv : uniV a b = 0 := if_neg (by omega)
      have HV := Lib.hid hv
      clear hv
      go_enter Try.func79, Try.ntmps79
      go_wp2_with go_in
      all_goals (go_ret; exact ⟨ret_i HV.out.symm, rfl⟩)
  · have dl1 : a < 0 := by omega
    have hv : uniV a b = 0 := if_neg (by omega)
    have HV := Lib.hid hv
    clear hv
    go_enter Try.func79, Try.ntmps79
    go_wp2_with go_in
    all_goals (go_ret; exact ⟨ret_i HV.out.symm, rfl⟩)
end Go.Proofs.Ytjlglppknemffaa
