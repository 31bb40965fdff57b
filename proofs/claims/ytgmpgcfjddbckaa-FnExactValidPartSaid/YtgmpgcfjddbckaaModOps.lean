
/- Sums and differences modulo the prime, by the program and by the model. -/
import Derived.Test.YtgmpgcfjddbckaaModM
namespace Go.Proofs.Ytgmpgcfjddbckaa
open Go.ChangeShapes Go.WideShapes Go.ChangeAt Go.RowKit
set_option linter.unusedVariables false
def addM (b s : Int) : Int := if 0 ≤ b ∧ b ≤ 2147483646 ∧ 0 ≤ s ∧ s ≤ 2147483646 then (b + s) % 2147483647 else 0
def subM (b s : Int) : Int := if 0 ≤ b ∧ b ≤ 2147483646 ∧ 0 ≤ s ∧ s ≤ 2147483646 then (b - s) % 2147483647 else 0
def keyB (k : Int) : Bool := if 1 ≤ k ∧ k ≤ 2147483646 then true else false
theorem tmod_small {x p : Int} (h1 : x < 0) (h2 : -p < x) : x.tmod p = x := by
  have h3 : (-x).tmod p = -x := Int.tmod_eq_of_lt (by omega) (by omega)
  rw [Int.neg_tmod] at h3
  omega
theorem implAddMod (b s : Int) (w : World) :
    Calls Try.prog 99 #[.int .i64 b, .int .i64 s] w fun e w' => e = .returned (.int .i64 (addM b s)) ∧ w = w' := by
  by_cases cl1 : 0 ≤ b
  · by_cases ch1 : b ≤ 2147483646
    · have dh1 : decide (b ≤ 2147483646) = true := by simp; omega
      by_cases cl2 : 0 ≤ s
      · by_cases ch2 : s ≤ 2147483646
        · have dh2 : decide (s ≤ 2147483646) = true := by simp; omega
          have hv : addM b s = (b + s) % 2147483647 := if_pos ⟨by omega, by omega, by omega, by omega⟩
          have HV := Lib.hid hv
          clear hv
          go_enter Try.func99, Try.ntmps99
          go_wp2_with go_in
          all_goals (go_ret; exact ⟨ret_int HV.out.symm, rfl⟩)
        · have dh2 : decide (s ≤ 2147483646) = false := by simp; omega
          have hv : addM b s = 0 := if_neg (by omega)
          have HV := Lib.hid hv
          clear hv
          go_enter Try.func99, Try.ntmps99
          go_wp2_with go_in
          all_goals (go_ret; exact ⟨ret_int HV.out.symm, rfl⟩)
      · have dl2 : s < 0 := by omega
        have hv : addM b s = 0 := if_neg (by omega)
        have HV := Lib.hid hv
        clear hv
        go_enter Try.func99, Try.ntmps99
        go_wp2_with go_in
        all_goals (go_ret; exact ⟨ret_int HV.out.symm, rfl⟩)
    · have dh1 : decide (b ≤ 2147483646) = false := by simp; omega
      have hv : addM b s = 0 := if_neg (by omega)
      have HV := Lib.hid hv
      clear hv
      go_enter Try.func99, Try.ntmps99
      go_wp2_with go_in
      all_goals (go_ret; exact ⟨ret_int HV.out.symm, rfl⟩)
  · have dl1 : b < 0 := by omega
    have hv : addM b s = 0 := if_neg (by omega)
    have HV := Lib.hid hv
    clear hv
    go_enter Try.func99, Try.ntmps99
    go_wp2_with go_in
    all_goals (go_ret; exact ⟨ret_int HV.out.symm, rfl⟩)
theorem implSubMod (b s : Int) (w : World) :
    Calls Try.prog 98 #[.int .i64 b, .int .i64 s] w fun e w' => e = .returned (.int .i64 (subM b s)) ∧ w = w' := by
  by_cases cl1 : 0 ≤ b
  · by_cases ch1 : b ≤ 2147483646
    · have dh1 : decide (b ≤ 2147483646) = true := by simp; omega
      by_cases cl2 : 0 ≤ s
      · by_cases ch2 : s ≤ 2147483646
        · have dh2 : decide (s ≤ 2147483646) = true := by simp; omega
          have hv : subM b s = (b - s) % 2147483647 := if_pos ⟨by omega, by omega, by omega, by omega⟩
          by_cases h : s ≤ b
          · have HV := Lib.hid (show subM b s = b - s by rw [hv]; omega)
            have e1 : (b - s + 2147483647) % 2147483647 = b - s := by omega
            have e2 : (b - s) % 2147483647 = b - s := by omega
            have h0 : 0 ≤ b - s := by omega
            clear hv
            go_enter Try.func98, Try.ntmps98
            go_wp2_with go_in
            all_goals (go_ret; exact ⟨by first | exact ret_int HV.out.symm | exact ret_int (e1.trans HV.out.symm) | exact ret_int (e2.trans HV.out.symm), rfl⟩)
          · have HV := Lib.hid (show subM b s = b - s + 2147483647 by rw [hv]; omega)
            have h0 : b - s < 0 := by omega
            have e1 : (b - s + 2147483647) % 2147483647 = b - s + 2147483647 := by omega
            have e2 : (b - s).tmod 2147483647 = b - s := tmod_small (by omega) (by omega)
            clear hv
            go_enter Try.func98, Try.ntmps98
            go_wp2_with go_in
            all_goals (go_ret; exact ⟨by first | exact ret_int HV.out.symm | exact ret_int (e1.trans HV.out.symm) | exact ret_int (e2.trans HV.out.symm), rfl⟩)
        · have dh2 : decide (s ≤ 2147483646) = false := by simp; omega
          have HV := Lib.hid (show subM b s = 0 from if_neg (by omega))
          go_enter Try.func98, Try.ntmps98
          go_wp2_with go_in
          all_goals (go_ret; exact ⟨ret_int HV.out.symm, rfl⟩)
      · have dl2 : s < 0 := by omega
        have HV := Lib.hid (show subM b s = 0 from if_neg (by omega))
        go_enter Try.func98, Try.ntmps98
        go_wp2_with go_in
        all_goals (go_ret; exact ⟨ret_int HV.out.symm, rfl⟩)
    · have dh1 : decide (b ≤ 2147483646) = false := by simp; omega
      have HV := Lib.hid (show subM b s = 0 from if_neg (by omega))
      go_enter Try.func98, Try.ntmps98
      go_wp2_with go_in
      all_goals (go_ret; exact ⟨ret_int HV.out.symm, rfl⟩)
  · have dl1 : b < 0 := by omega
    have HV := Lib.hid (show subM b s = 0 from if_neg (by omega))
    go_enter Try.func98, Try.ntmps98
    go_wp2_with go_in
    all_goals (go_ret; exact ⟨ret_int HV.out.symm, rfl⟩)
theorem specAddMod (b s : Int) (w : World) :
    Calls Try.prog 89 #[.int .i64 b, .int .i64 s] w fun e w' => e = .returned (.int .i64 (addM b s)) ∧ w = w' := by
  by_cases cl1 : 0 ≤ b
  · by_cases ch1 : b ≤ 2147483646
    · have dh1 : decide (b ≤ 2147483646) = true := by simp; omega
      by_cases cl2 : 0 ≤ s
      · by_cases ch2 : s ≤ 2147483646
        · have dh2 : decide (s ≤ 2147483646) = true := by simp; omega
          have hv : addM b s = (b + s) % 2147483647 := if_pos ⟨by omega, by omega, by omega, by omega⟩
          have HV := Lib.hid hv
          clear hv
          go_enter Try.func89, Try.ntmps89
          go_wp2_with go_in
          all_goals (go_ret; exact ⟨ret_int HV.out.symm, rfl⟩)
        · have dh2 : decide (s ≤ 2147483646) = false := by simp; omega
          have hv : addM b s = 0 := if_neg (by omega)
          have HV := Lib.hid hv
          clear hv
          go_enter Try.func89, Try.ntmps89
          go_wp2_with go_in
          all_goals (go_ret; exact ⟨ret_int HV.out.symm, rfl⟩)
      · have dl2 : s < 0 := by omega
        have hv : addM b s = 0 := if_neg (by omega)
        have HV := Lib.hid hv
        clear hv
        go_enter Try.func89, Try.ntmps89
        go_wp2_with go_in
        all_goals (go_ret; exact ⟨ret_int HV.out.symm, rfl⟩)
    · have dh1 : decide (b ≤ 2147483646) = false := by simp; omega
      have hv : addM b s = 0 := if_neg (by omega)
      have HV := Lib.hid hv
      clear hv
      go_enter Try.func89, Try.ntmps89
      go_wp2_with go_in
      all_goals (go_ret; exact ⟨ret_int HV.out.symm, rfl⟩)
  · have dl1 : b < 0 := by omega
    have hv : addM b s = 0 := if_neg (by omega)
    have HV := Lib.hid hv
    clear hv
    go_enter Try.func89, Try.ntmps89
    go_wp2_with go_in
    all_goals (go_ret; exact ⟨ret_int HV.out.symm, rfl⟩)
theorem specSubMod (b s : Int) (w : World) :
    Calls Try.prog 88 #[.int .i64 b, .int .i64 s] w fun e w' => e = .returned (.int .i64 (subM b s)) ∧ w = w' := by
  by_cases cl1 : 0 ≤ b
  · by_cases ch1 : b ≤ 2147483646
    · have dh1 : decide (b ≤ 2147483646) = true := by simp; omega
      by_cases cl2 : 0 ≤ s
      · by_cases ch2 : s ≤ 2147483646
        · have dh2 : decide (s ≤ 2147483646) = true := by simp; omega
          have hv : subM b s = (b - s) % 2147483647 := if_pos ⟨by omega, by omega, by omega, by omega⟩
          by_cases h : s ≤ b
          · have HV := Lib.hid (show subM b s = b - s by rw [hv]; omega)
            have e1 : (b - s + 2147483647) % 2147483647 = b - s := by omega
            have e2 : (b - s) % 2147483647 = b - s := by omega
            have h0 : 0 ≤ b - s := by omega
            clear hv
            go_enter Try.func88, Try.ntmps88
            go_wp2_with go_in
            all_goals (go_ret; exact ⟨by first | exact ret_int HV.out.symm | exact ret_int (e1.trans HV.out.symm) | exact ret_int (e2.trans HV.out.symm), rfl⟩)
          · have HV := Lib.hid (show subM b s = b - s + 2147483647 by rw [hv]; omega)
            have h0 : b - s < 0 := by omega
            have e1 : (b - s + 2147483647) % 2147483647 = b - s + 2147483647 := by omega
            have e2 : (b - s).tmod 2147483647 = b - s := tmod_small (by omega) (by omega)
            clear hv
            go_enter Try.func88, Try.ntmps88
            go_wp2_with go_in
            all_goals (go_ret; exact ⟨by first | exact ret_int HV.out.symm | exact ret_int (e1.trans HV.out.symm) | exact ret_int (e2.trans HV.out.symm), rfl⟩)
        · have dh2 : decide (s ≤ 2147483646) = false := by simp; omega
          have HV := Lib.hid (show subM b s = 0 from if_neg (by omega))
          go_enter Try.func88, Try.ntmps88
          go_wp2_with go_in
          all_goals (go_ret; exact ⟨ret_int HV.out.symm, rfl⟩)
      · have dl2 : s < 0 := by omega
        have HV := Lib.hid (show subM b s = 0 from if_neg (by omega))
        go_enter Try.func88, Try.ntmps88
        go_wp2_with go_in
        all_goals (go_ret; exact ⟨ret_int HV.out.symm, rfl⟩)
    · have dh1 : decide (b ≤ 2147483646) = false := by simp; omega
      have HV := Lib.hid (show subM b s = 0 from if_neg (by omega))
      go_enter Try.func88, Try.ntmps88
      go_wp2_with go_in
      all_goals (go_ret; exact ⟨ret_int HV.out.symm, rfl⟩)
  · have dl1 : b < 0 := by omega
    have HV := Lib.hid (show subM b s = 0 from if_neg (by omega))
    go_enter Try.func88, Try.ntmps88
    go_wp2_with go_in
    all_goals (go_ret; exact ⟨ret_int HV.out.symm, rfl⟩)
end Go.Proofs.Ytgmpgcfjddbckaa
