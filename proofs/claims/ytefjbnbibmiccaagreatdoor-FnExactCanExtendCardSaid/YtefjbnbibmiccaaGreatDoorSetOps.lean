
/- Sets of small integers: what the program's and the model's functions on one element return. -/
import Derived.Test.YtefjbnbibmiccaaGreatDoorRows
import Derived.Test.YtefjbnbibmiccaaGreatDoorSetMath
import Derived.Handy
import Derived.Lib.Hide
namespace Go.Proofs.YtefjbnbibmiccaaGreatDoor
open Go.ChangeShapes Go.WideShapes Go.ChangeAt Go.RowKit
set_option linter.unusedVariables false
theorem ret_i {a b : Int} (h : a = b) : Ending.returned (.int .i64 a) = .returned (.int .i64 b) := by rw [h]
theorem ret_b {a b : Bool} (h : a = b) : Ending.returned (.bool a) = .returned (.bool b) := by rw [h]
def setB (s : Int) : Bool := if 0 ≤ s ∧ s ≤ 65535 then true else false
def hasB (s i : Int) : Bool := if 0 ≤ s ∧ s ≤ 65535 ∧ 0 ≤ i ∧ i ≤ 15 then bits .and .i64 (s / 2 ^ i.toNat) 1 == 1 else false
def addV (s i : Int) : Int := if 0 ≤ s ∧ s ≤ 65535 ∧ 0 ≤ i ∧ i ≤ 15 then bits .or .i64 s (wrap64 (2 ^ i.toNat)) else s
def delV (s i : Int) : Int := if 0 ≤ s ∧ s ≤ 65535 ∧ 0 ≤ i ∧ i ≤ 15 then bits .andNot .i64 s (wrap64 (2 ^ i.toNat)) else s
def uniV (a b : Int) : Int := if 0 ≤ a ∧ a ≤ 65535 ∧ 0 ≤ b ∧ b ≤ 65535 then bits .or .i64 a b else 0
def intV (a b : Int) : Int := if 0 ≤ a ∧ a ≤ 65535 ∧ 0 ≤ b ∧ b ≤ 65535 then bits .and .i64 a b else 0
theorem implValidSet (s : Int) (w : World) :
    Calls Tryz.prog 85 #[.int .i64 s] w fun e w' => e = .returned (.bool (setB s)) ∧ w = w' := by
  by_cases cl1 : 0 ≤ s
  · by_cases ch1 : s ≤ 65535
    · have dh1 : decide (s ≤ 65535) = true := by simp; omega
      have hv : setB s = true := if_pos ⟨by omega, by omega⟩
      have HV := Lib.hid hv
      clear hv
      go_enter Tryz.func85, Tryz.ntmps85
      go_wp2_with go_in
      all_goals (go_ret; exact ⟨ret_b HV.out.symm, rfl⟩)
    · have dh1 : decide (s ≤ 65535) = false := by simp; omega
      have hv : setB s = false := if_neg (by omega)
      have HV := Lib.hid hv
      clear hv
      go_enter Tryz.func85, Tryz.ntmps85
      go_wp2_with go_in
      all_goals (go_ret; exact ⟨ret_b HV.out.symm, rfl⟩)
  · have dl1 : s < 0 := by omega
    have hv : setB s = false := if_neg (by omega)
    have HV := Lib.hid hv
    clear hv
    go_enter Tryz.func85, Tryz.ntmps85
    go_wp2_with go_in
    all_goals (go_ret; exact ⟨ret_b HV.out.symm, rfl⟩)
theorem implContains (s i : Int) (w : World) :
    Calls Tryz.prog 61 #[.int .i64 s, .int .i64 i] w fun e w' => e = .returned (.bool (hasB s i)) ∧ w = w' := by
  by_cases cl1 : 0 ≤ s
  · by_cases ch1 : s ≤ 65535
    · have dh1 : decide (s ≤ 65535) = true := by simp; omega
      by_cases cl2 : 0 ≤ i
      · by_cases ch2 : i ≤ 15
        · have dh2 : decide (i ≤ 15) = true := by simp; omega
          have hv : hasB s i = (bits .and .i64 (s / 2 ^ i.toNat) 1 == 1) := if_pos ⟨by omega, by omega, by omega, by omega⟩
          have HV := Lib.hid hv
          clear hv
          have HB := has_bit (a0 := s) (a1 := i) (by omega) (by omega) (by omega) (by omega)
          go_enter Tryz.func61, Tryz.ntmps61
          go_wp2_with go_in
          all_goals (go_ret; exact ⟨ret_b HV.out.symm, rfl⟩)
        · have dh2 : decide (i ≤ 15) = false := by simp; omega
          have hv : hasB s i = false := if_neg (by omega)
          have HV := Lib.hid hv
          clear hv
          go_enter Tryz.func61, Tryz.ntmps61
          go_wp2_with go_in
          all_goals (go_ret; exact ⟨ret_b HV.out.symm, rfl⟩)
      · have dl2 : i < 0 := by omega
        have hv : hasB s i = false := if_neg (by omega)
        have HV := Lib.hid hv
        clear hv
        go_enter Tryz.func61, Tryz.ntmps61
        go_wp2_with go_in
        all_goals (go_ret; exact ⟨ret_b HV.out.symm, rfl⟩)
    · have dh1 : decide (s ≤ 65535) = false := by simp; omega
      have hv : hasB s i = false := if_neg (by omega)
      have HV := Lib.hid hv
      clear hv
      go_enter Tryz.func61, Tryz.ntmps61
      go_wp2_with go_in
      all_goals (go_ret; exact ⟨ret_b HV.out.symm, rfl⟩)
  · have dl1 : s < 0 := by omega
    have hv : hasB s i = false := if_neg (by omega)
    have HV := Lib.hid hv
    clear hv
    go_enter Tryz.func61, Tryz.ntmps61
    go_wp2_with go_in
    all_goals (go_ret; exact ⟨ret_b HV.out.symm, rfl⟩)
theorem implAddElement (s i : Int) (w : World) :
    Calls Tryz.prog 63 #[.int .i64 s, .int .i64 i] w fun e w' => e = .returned (.int .i64 (addV s i)) ∧ w = w' := by
  by_cases cl1 : 0 ≤ s
  · by_cases ch1 : s ≤ 65535
    · have dh1 : decide (s ≤ 65535) = true := by simp; omega
      by_cases cl2 : 0 ≤ i
      · by_cases ch2 : i ≤ 15
        · have dh2 : decide (i ≤ 15) = true := by simp; omega
          have hv : addV s i = bits .or .i64 s (wrap64 (2 ^ i.toNat)) := if_pos ⟨by omega, by omega, by omega, by omega⟩
          have HV := Lib.hid hv
          clear hv
          go_enter Tryz.func63, Tryz.ntmps63
          go_wp2_with go_in
          all_goals (go_ret; exact ⟨ret_i HV.out.symm, rfl⟩)
        · have dh2 : decide (i ≤ 15) = false := by simp; omega
          have hv : addV s i = s := if_neg (by omega)
          have HV := Lib.hid hv
          clear hv
          go_enter Tryz.func63, Tryz.ntmps63
          go_wp2_with go_in
          all_goals (go_ret; exact ⟨ret_i HV.out.symm, rfl⟩)
      · have dl2 : i < 0 := by omega
        have hv : addV s i = s := if_neg (by omega)
        have HV := Lib.hid hv
        clear hv
        go_enter Tryz.func63, Tryz.ntmps63
        go_wp2_with go_in
        all_goals (go_ret; exact ⟨ret_i HV.out.symm, rfl⟩)
    · have dh1 : decide (s ≤ 65535) = false := by simp; omega
      have hv : addV s i = s := if_neg (by omega)
      have HV := Lib.hid hv
      clear hv
      go_enter Tryz.func63, Tryz.ntmps63
      go_wp2_with go_in
      all_goals (go_ret; exact ⟨ret_i HV.out.symm, rfl⟩)
  · have dl1 : s < 0 := by omega
    have hv : addV s i = s := if_neg (by omega)
    have HV := Lib.hid hv
    clear hv
    go_enter Tryz.func63, Tryz.ntmps63
    go_wp2_with go_in
    all_goals (go_ret; exact ⟨ret_i HV.out.symm, rfl⟩)
end Go.Proofs.YtefjbnbibmiccaaGreatDoor
