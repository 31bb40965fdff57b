
/- ValidRevocation and ValidReservation of both sides. -/
import Derived.Test.YtoicmmandniagaaSRevocation
import Derived.Test.YtoicmmandniagaaSReservation
import Derived.Test.YtoicmmandniagaaRet
namespace Go.Proofs.Ytoicmmandniagaa
open Go.ChangeShapes Go.WideShapes Go.ChangeAt Go.RowKit
set_option linter.unusedVariables false
def revOk (a i u : Int) : Bool := decide ((0 ≤ a ∧ a ≤ 7) ∧ (1 ≤ i ∧ i ≤ 6) ∧ (0 ≤ u ∧ u ≤ 1000000))
def resOk (d a i r u : Int) : Bool := decide ((1 ≤ d ∧ d ≤ 100000) ∧ (0 ≤ a ∧ a ≤ 7) ∧ (1 ≤ i ∧ i ≤ 6) ∧ (1 ≤ r ∧ r ≤ 20) ∧ (0 ≤ u ∧ u ≤ 1000000))
set_option maxRecDepth 100000 in
set_option maxHeartbeats 8000000 in
theorem specVRev (a i u : Int) (w : World) : Calls Try.prog 38 #[.agg #[.int .i64 a, .int .i64 i, .int .i64 u]] w fun en w' => en = .returned (.bool (revOk a i u)) ∧ Mk0 w w' := by
  by_cases cl1 : 0 ≤ a
  · by_cases ch1 : a ≤ 7
    · have dh1 : decide (a ≤ 7) = true := by simp; omega
      by_cases cl2 : 1 ≤ i
      · by_cases ch2 : i ≤ 6
        · have dh2 : decide (i ≤ 6) = true := by simp; omega
          by_cases cl3 : 0 ≤ u
          · by_cases ch3 : u ≤ 1000000
            · have dh3 : decide (u ≤ 1000000) = true := by simp; omega
              have hv : revOk a i u = true := by simp only [revOk, decide_eq_true_eq]; omega
              have HV := Lib.hid hv
              clear hv
              go_enter Try.func38, Try.ntmps38
              go_wp2_with go_in
              all_goals (go_ret; exact ⟨retB HV.out.symm, Mk.of_below (by go_grown)⟩)
            · have dh3 : decide (u ≤ 1000000) = false := by simp; omega
              have hv : revOk a i u = false := by simp only [revOk, decide_eq_false_iff_not]; omega
              have HV := Lib.hid hv
              clear hv
              go_enter Try.func38, Try.ntmps38
              go_wp2_with go_in
              all_goals (go_ret; exact ⟨retB HV.out.symm, Mk.of_below (by go_grown)⟩)
          · have dl3 : u < 0 := by omega
            have hv : revOk a i u = false := by simp only [revOk, decide_eq_false_iff_not]; omega
            have HV := Lib.hid hv
            clear hv
            go_enter Try.func38, Try.ntmps38
            go_wp2_with go_in
            all_goals (go_ret; exact ⟨retB HV.out.symm, Mk.of_below (by go_grown)⟩)
        · have dh2 : decide (i ≤ 6) = false := by simp; omega
          have hv : revOk a i u = false := by simp only [revOk, decide_eq_false_iff_not]; omega
          have HV := Lib.hid hv
          clear hv
          go_enter Try.func38, Try.ntmps38
          go_wp2_with go_in
          all_goals (go_ret; exact ⟨retB HV.out.symm, Mk.of_below (by go_grown)⟩)
      · have dl2 : i < 1 := by omega
        have hv : revOk a i u = false := by simp only [revOk, decide_eq_false_iff_not]; omega
        have HV := Lib.hid hv
        clear hv
        go_enter Try.func38, Try.ntmps38
        go_wp2_with go_in
        all_goals (go_ret; exact ⟨retB HV.out.symm, Mk.of_below (by go_grown)⟩)
    · have dh1 : decide (a ≤ 7) = false := by simp; omega
      have hv : revOk a i u = false := by simp only [revOk, decide_eq_false_iff_not]; omega
      have HV := Lib.hid hv
      clear hv
      go_enter Try.func38, Try.ntmps38
      go_wp2_with go_in
      all_goals (go_ret; exact ⟨retB HV.out.symm, Mk.of_below (by go_grown)⟩)
  · have dl1 : a < 0 := by omega
    have hv : revOk a i u = false := by simp only [revOk, decide_eq_false_iff_not]; omega
    have HV := Lib.hid hv
    clear hv
    go_enter Try.func38, Try.ntmps38
    go_wp2_with go_in
    all_goals (go_ret; exact ⟨retB HV.out.symm, Mk.of_below (by go_grown)⟩)

set_option maxRecDepth 100000 in
set_option maxHeartbeats 8000000 in
theorem implVRev (a i u : Int) (w : World) : Calls Try.prog 55 #[.agg #[.int .i64 a, .int .i64 i, .int .i64 u]] w fun en w' => en = .returned (.bool (revOk a i u)) ∧ Mk0 w w' := by
  by_cases cl1 : 0 ≤ a
  · by_cases ch1 : a ≤ 7
    · have dh1 : decide (a ≤ 7) = true := by simp; omega
      by_cases cl2 : 1 ≤ i
      · by_cases ch2 : i ≤ 6
        · have dh2 : decide (i ≤ 6) = true := by simp; omega
          by_cases cl3 : 0 ≤ u
          · by_cases ch3 : u ≤ 1000000
            · have dh3 : decide (u ≤ 1000000) = true := by simp; omega
              have hv : revOk a i u = true := by simp only [revOk, decide_eq_true_eq]; omega
              have HV := Lib.hid hv
              clear hv
              go_enter Try.func55, Try.ntmps55
              go_wp2_with go_in
              all_goals (go_ret; exact ⟨retB HV.out.symm, Mk.of_below (by go_grown)⟩)
            · have dh3 : decide (u ≤ 1000000) = false := by simp; omega
              have hv : revOk a i u = false := by simp only [revOk, decide_eq_false_iff_not]; omega
              have HV := Lib.hid hv
              clear hv
              go_enter Try.func55, Try.ntmps55
              go_wp2_with go_in
              all_goals (go_ret; exact ⟨retB HV.out.symm, Mk.of_below (by go_grown)⟩)
          · have dl3 : u < 0 := by omega
            have hv : revOk a i u = false := by simp only [revOk, decide_eq_false_iff_not]; omega
            have HV := Lib.hid hv
            clear hv
            go_enter Try.func55, Try.ntmps55
            go_wp2_with go_in
            all_goals (go_ret; exact ⟨retB HV.out.symm, Mk.of_below (by go_grown)⟩)
        · have dh2 : decide (i ≤ 6) = false := by simp; omega
          have hv : revOk a i u = false := by simp only [revOk, decide_eq_false_iff_not]; omega
          have HV := Lib.hid hv
          clear hv
          go_enter Try.func55, Try.ntmps55
          go_wp2_with go_in
          all_goals (go_ret; exact ⟨retB HV.out.symm, Mk.of_below (by go_grown)⟩)
      · have dl2 : i < 1 := by omega
        have hv : revOk a i u = false := by simp only [revOk, decide_eq_false_iff_not]; omega
        have HV := Lib.hid hv
        clear hv
        go_enter Try.func55, Try.ntmps55
        go_wp2_with go_in
        all_goals (go_ret; exact ⟨retB HV.out.symm, Mk.of_below (by go_grown)⟩)
    · have dh1 : decide (a ≤ 7) = false := by simp; omega
      have hv : revOk a i u = false := by simp only [revOk, decide_eq_false_iff_not]; omega
      have HV := Lib.hid hv
      clear hv
      go_enter Try.func55, Try.ntmps55
      go_wp2_with go_in
      all_goals (go_ret; exact ⟨retB HV.out.symm, Mk.of_below (by go_grown)⟩)
  · have dl1 : a < 0 := by omega
    have hv : revOk a i u = false := by simp only [revOk, decide_eq_false_iff_not]; omega
    have HV := Lib.hid hv
    clear hv
    go_enter Try.func55, Try.ntmps55
    go_wp2_with go_in
    all_goals (go_ret; exact ⟨retB HV.out.symm, Mk.of_below (by go_grown)⟩)

end Go.Proofs.Ytoicmmandniagaa
