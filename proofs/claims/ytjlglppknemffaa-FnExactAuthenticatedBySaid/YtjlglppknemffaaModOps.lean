
/- Sums and differences modulo the prime, by the program and by the model. -/
import Derived.Test.YtjlglppknemffaaModM
namespace Go.Proofs.Ytjlglppknemffaa
open Go.ChangeShapes Go.WideShapes Go.ChangeAt Go.RowKit
set_option linter.unusedVariables false
def addM (b s : Int) : Int := if 0 ≤ b ∧ b ≤ 2147483646 ∧ 0 ≤ s ∧ s ≤ 2147483646 then (b + s) % 2147483647 else 0
def subM (b s : Int) : Int := if 0 ≤ b ∧ b ≤ 2147483646 ∧ 0 ≤ s ∧ s ≤ 2147483646 then (b - s) % 2147483647 else 0
def keyB (k : Int) : Bool := if 1 ≤ k ∧ k ≤ 2147483646 then true else false
theorem tmod_small {x p : Int} (h1 : x < 0) (h2 : -p < x) : x.tmod p = x := by
  have h3 : (-x).tmod p = -x := Int.tmod_eq_of_lt (by omega) (by omega)
  rw [Int.neg_tmod] at h3
  omega
theorem implAddMod (b s : Int) (w : World) :
    Calls Try.prog 115 #[.int .i64 b, .int .i64 s] w fun e w' => e = .returned (.int .i64 (addM b s)) ∧ w = w' := by
  by_cases cl1 : 0 ≤ b
  · by_cases ch1 : b ≤ 2147483646
    · have dh1 : decide (b ≤ 2147483646) = true := by simp; omega
      by_cases cl2 : 0 ≤ s
      · by_cases ch2 : s ≤ 2147483646
        · have dh2 : decide (s ≤ 2147483646) = true := by simp; omega
          have hv : addM b s = (b + s) % 2147483647 := if_pos ⟨by omega, by omega, by omega, by omega⟩
          have HV := Lib.hid hv
          clear hv
          go_enter Try.func115, Try.ntmps115
          go_wp2_with go_in
          all_goals (go_ret; exact ⟨ret_int HV.out.symm, rfl⟩)
        · have dh2 : decide (s ≤ 2147483646) = false := by simp; omega
          have hv : addM b s = 0 := if_neg (by omega)
          have HV := Lib.hid hv
          clear hv
          go_enter Try.func115, Try.ntmps115
          go_wp2_with go_in
          all_goals (go_ret; exact ⟨ret_int HV.out.symm, rfl⟩)
      · have dl2 : s < 0 := by omega
        have hv : addM b s = 0 := if_neg (by omega)
        have HV := Lib.hid hv
        clear hv
        go_enter Try.func115, Try.ntmps115
        go_wp2_with go_in
        all_goals (go_ret; exact ⟨ret_int HV.out.symm, rfl⟩)
    · have dh1 : decide (b ≤ 2147483646) = false := by simp; omega
      have hv : addM b s = 0 := if_neg (by omega)
      have HV := Lib.hid hv
      clear hv
      go_enter Try.func115, Try.ntmps115
      go_wp2_with go_in
      all_goals (go_ret; exact ⟨ret_int HV.out.symm, rfl⟩)
  · have dl1 : b < 0 := by omega
    have hv : addM b s = 0 := if_neg (by omega)
    have HV := Lib.hid hv
    clear hv
    go_enter Try.func115, Try.ntmps115
    go_wp2_with go_in
    all_goals (go_ret; exact ⟨ret_int HV.out.symm, rfl⟩)
theorem implValidKey (k : Int) (w : World) :
    Calls Try.prog 91 #[.int .i64 k] w fun e w' => e = .returned (.bool (keyB k)) ∧ w = w' := by
  by_cases cl1 : 1 ≤ k
  · by_cases ch1 : k ≤ 2147483646
    · have dh1 : decide (k ≤ 2147483646) = true := by simp; omega
      have hv : keyB k = true := if_pos ⟨by omega, by omega⟩
      have HV := Lib.hid hv
      clear hv
      go_enter Try.func91, Try.ntmps91
      go_wp2_with go_in
      all_goals (go_ret; exact ⟨ret_bool HV.out.symm, rfl⟩)
    · have dh1 : decide (k ≤ 2147483646) = false := by simp; omega
      have hv : keyB k = false := if_neg (by omega)
      have HV := Lib.hid hv
      clear hv
      go_enter Try.func91, Try.ntmps91
      go_wp2_with go_in
      all_goals (go_ret; exact ⟨ret_bool HV.out.symm, rfl⟩)
  · have dl1 : k < 1 := by omega
    have hv : keyB k = false := if_neg (by omega)
    have HV := Lib.hid hv
    clear hv
    go_enter Try.func91, Try.ntmps91
    go_wp2_with go_in
    all_goals (go_ret; exact ⟨ret_bool HV.out.symm, rfl⟩)
theorem specAddMod (b s : Int) (w : World) :
    Calls Try.prog 132 #[.int .i64 b, .int .i64 s] w fun e w' => e = .returned (.int .i64 (addM b s)) ∧ w = w' := by
  by_cases cl1 : 0 ≤ b
  · by_cases ch1 : b ≤ 2147483646
    · have dh1 : decide (b ≤ 2147483646) = true := by simp; omega
      by_cases cl2 : 0 ≤ s
      · by_cases ch2 : s ≤ 2147483646
        · have dh2 : decide (s ≤ 2147483646) = true := by simp; omega
          have hv : addM b s = (b + s) % 2147483647 := if_pos ⟨by omega, by omega, by omega, by omega⟩
          have HV := Lib.hid hv
          clear hv
          go_enter Try.func132, Try.ntmps132
          go_wp2_with go_in
          all_goals (go_ret; exact ⟨ret_int HV.out.symm, rfl⟩)
        · have dh2 : decide (s ≤ 2147483646) = false := by simp; omega
          have hv : addM b s = 0 := if_neg (by omega)
          have HV := Lib.hid hv
          clear hv
          go_enter Try.func132, Try.ntmps132
          go_wp2_with go_in
          all_goals (go_ret; exact ⟨ret_int HV.out.symm, rfl⟩)
      · have dl2 : s < 0 := by omega
        have hv : addM b s = 0 := if_neg (by omega)
        have HV := Lib.hid hv
        clear hv
        go_enter Try.func132, Try.ntmps132
        go_wp2_with go_in
        all_goals (go_ret; exact ⟨ret_int HV.out.symm, rfl⟩)
    · have dh1 : decide (b ≤ 2147483646) = false := by simp; omega
      have hv : addM b s = 0 := if_neg (by omega)
      have HV := Lib.hid hv
      clear hv
      go_enter Try.func132, Try.ntmps132
      go_wp2_with go_in
      all_goals (go_ret; exact ⟨ret_int HV.out.symm, rfl⟩)
  · have dl1 : b < 0 := by omega
    have hv : addM b s = 0 := if_neg (by omega)
    have HV := Lib.hid hv
    clear hv
    go_enter Try.func132, Try.ntmps132
    go_wp2_with go_in
    all_goals (go_ret; exact ⟨ret_int HV.out.symm, rfl⟩)
theorem specValidKey (k : Int) (w : World) :
    Calls Try.prog 49 #[.int .i64 k] w fun e w' => e = .returned (.bool (keyB k)) ∧ w = w' := by
  by_cases cl1 : 1 ≤ k
  · by_cases ch1 : k ≤ 2147483646
    · have dh1 : decide (k ≤ 2147483646) = true := by simp; omega
      have hv : keyB k = true := if_pos ⟨by omega, by omega⟩
      have HV := Lib.hid hv
      clear hv
      go_enter Try.func49, Try.ntmps49
      go_wp2_with go_in
      all_goals (go_ret; exact ⟨ret_bool HV.out.symm, rfl⟩)
    · have dh1 : decide (k ≤ 2147483646) = false := by simp; omega
      have hv : keyB k = false := if_neg (by omega)
      have HV := Lib.hid hv
      clear hv
      go_enter Try.func49, Try.ntmps49
      go_wp2_with go_in
      all_goals (go_ret; exact ⟨ret_bool HV.out.symm, rfl⟩)
  · have dl1 : k < 1 := by omega
    have hv : keyB k = false := if_neg (by omega)
    have HV := Lib.hid hv
    clear hv
    go_enter Try.func49, Try.ntmps49
    go_wp2_with go_in
    all_goals (go_ret; exact ⟨ret_bool HV.out.symm, rfl⟩)
end Go.Proofs.Ytjlglppknemffaa
