
/- ValidHop of both sides. -/
import Derived.Test.YtbkbkpnpllemfaaSHop
import Derived.Test.YtbkbkpnpllemfaaRow
import Derived.Test.YtbkbkpnpllemfaaCTopology
import Derived.Test.YtbkbkpnpllemfaaHop
import Derived.Test.YtbkbkpnpllemfaaInR
import Derived.Deep.RegionHeld3
namespace Go.Proofs.Ytbkbkpnpllemfaa
open Go.ChangeShapes Go.WideShapes Go.ChangeAt Go.RowKit
set_option linter.unusedVariables false
def hopOk (x : THop) : Bool := decide ((0 ≤ x.nd ∧ x.nd ≤ 7) ∧ (0 ≤ x.ing ∧ x.ing ≤ 6) ∧ (0 ≤ x.eg ∧ x.eg ≤ 6) ∧ x.ing ≠ x.eg ∧ (0 ≤ x.exp ∧ x.exp ≤ 1000000) ∧ (0 ≤ x.mac ∧ x.mac ≤ 2147483646))
set_option maxRecDepth 100000 in
set_option maxHeartbeats 8000000 in
theorem specVHop (a i e x m : Int) (w : World) : Calls Try.prog 101 #[.agg #[.int .i64 a, .int .i64 i, .int .i64 e, .int .i64 x, .int .i64 m]] w fun en w' => en = .returned (.bool (hopOk ⟨a, i, e, x, m⟩)) ∧ Mk0 w w' := by
  by_cases cl1 : 0 ≤ a
  · by_cases ch1 : a ≤ 7
    · have dh1 : decide (a ≤ 7) = true := by simp; omega
      by_cases cl2 : 0 ≤ i
      · by_cases ch2 : i ≤ 6
        · have dh2 : decide (i ≤ 6) = true := by simp; omega
          by_cases cl3 : 0 ≤ e
          · by_cases ch3 : e ≤ 6
            · have dh3 : decide (e ≤ 6) = true := by simp; omega
              by_cases hne : i = e
              · have n1 : (i != e) = false := by simpa using hne
                have hv : hopOk ⟨a, i, e, x, m⟩ = false := by simp only [hopOk, decide_eq_false_iff_not]; omega
                have HV := Lib.hid hv
                clear hv hne
                go_enter Try.func101, Try.ntmps101
                go_wp2_with go_in
                all_goals (go_ret; exact ⟨retB HV.out.symm, Mk.of_below (by go_grown)⟩)
              · have n1 : (i != e) = true := by simpa using hne
                by_cases cl4 : 0 ≤ x
                · by_cases ch4 : x ≤ 1000000
                  · have dh4 : decide (x ≤ 1000000) = true := by simp; omega
                    by_cases cl5 : 0 ≤ m
                    · by_cases ch5 : m ≤ 2147483646
                      · have dh5 : decide (m ≤ 2147483646) = true := by simp; omega
                        have hv : hopOk ⟨a, i, e, x, m⟩ = true := by simp only [hopOk, decide_eq_true_eq]; omega
                        have HV := Lib.hid hv
                        clear hv hne
                        go_enter Try.func101, Try.ntmps101
                        go_wp2_with go_in
                        all_goals (go_ret; exact ⟨retB HV.out.symm, Mk.of_below (by go_grown)⟩)
                      · have dh5 : decide (m ≤ 2147483646) = false := by simp; omega
                        have hv : hopOk ⟨a, i, e, x, m⟩ = false := by simp only [hopOk, decide_eq_false_iff_not]; omega
                        have HV := Lib.hid hv
                        clear hv hne
                        go_enter Try.func101, Try.ntmps101
                        go_wp2_with go_in
                        all_goals (go_ret; exact ⟨retB HV.out.symm, Mk.of_below (by go_grown)⟩)
                    · have dl5 : m < 0 := by omega
                      have hv : hopOk ⟨a, i, e, x, m⟩ = false := by simp only [hopOk, decide_eq_false_iff_not]; omega
                      have HV := Lib.hid hv
                      clear hv hne
                      go_enter Try.func101, Try.ntmps101
                      go_wp2_with go_in
                      all_goals (go_ret; exact ⟨retB HV.out.symm, Mk.of_below (by go_grown)⟩)
                  · have dh4 : decide (x ≤ 1000000) = false := by simp; omega
                    have hv : hopOk ⟨a, i, e, x, m⟩ = false := by simp only [hopOk, decide_eq_false_iff_not]; omega
                    have HV := Lib.hid hv
                    clear hv hne
                    go_enter Try.func101, Try.ntmps101
                    go_wp2_with go_in
                    all_goals (go_ret; exact ⟨retB HV.out.symm, Mk.of_below (by go_grown)⟩)
                · have dl4 : x < 0 := by omega
                  have hv : hopOk ⟨a, i, e, x, m⟩ = false := by simp only [hopOk, decide_eq_false_iff_not]; omega
                  have HV := Lib.hid hv
                  clear hv hne
                  go_enter Try.func101, Try.ntmps101
                  go_wp2_with go_in
                  all_goals (go_ret; exact ⟨retB HV.out.symm, Mk.of_below (by go_grown)⟩)
            · have dh3 : decide (e ≤ 6) = false := by simp; omega
              have hv : hopOk ⟨a, i, e, x, m⟩ = false := by simp only [hopOk, decide_eq_false_iff_not]; omega
              have HV := Lib.hid hv
              clear hv
              go_enter Try.func101, Try.ntmps101
              go_wp2_with go_in
              all_goals (go_ret; exact ⟨retB HV.out.symm, Mk.of_below (by go_grown)⟩)
          · have dl3 : e < 0 := by omega
            have hv : hopOk ⟨a, i, e, x, m⟩ = false := by simp only [hopOk, decide_eq_false_iff_not]; omega
            have HV := Lib.hid hv
            clear hv
            go_enter Try.func101, Try.ntmps101
            go_wp2_with go_in
            all_goals (go_ret; exact ⟨retB HV.out.symm, Mk.of_below (by go_grown)⟩)
        · have dh2 : decide (i ≤ 6) = false := by simp; omega
          have hv : hopOk ⟨a, i, e, x, m⟩ = false := by simp only [hopOk, decide_eq_false_iff_not]; omega
          have HV := Lib.hid hv
          clear hv
          go_enter Try.func101, Try.ntmps101
          go_wp2_with go_in
          all_goals (go_ret; exact ⟨retB HV.out.symm, Mk.of_below (by go_grown)⟩)
      · have dl2 : i < 0 := by omega
        have hv : hopOk ⟨a, i, e, x, m⟩ = false := by simp only [hopOk, decide_eq_false_iff_not]; omega
        have HV := Lib.hid hv
        clear hv
        go_enter Try.func101, Try.ntmps101
        go_wp2_with go_in
        all_goals (go_ret; exact ⟨retB HV.out.symm, Mk.of_below (by go_grown)⟩)
    · have dh1 : decide (a ≤ 7) = false := by simp; omega
      have hv : hopOk ⟨a, i, e, x, m⟩ = false := by simp only [hopOk, decide_eq_false_iff_not]; omega
      have HV := Lib.hid hv
      clear hv
      go_enter Try.func101, Try.ntmps101
      go_wp2_with go_in
      all_goals (go_ret; exact ⟨retB HV.out.symm, Mk.of_below (by go_grown)⟩)
  · have dl1 : a < 0 := by omega
    have hv : hopOk ⟨a, i, e, x, m⟩ = false := by simp only [hopOk, decide_eq_false_iff_not]; omega
    have HV := Lib.hid hv
    clear hv
    go_enter Try.func101, Try.ntmps101
    go_wp2_with go_in
    all_goals (go_ret; exact ⟨retB HV.out.symm, Mk.of_below (by go_grown)⟩)

set_option maxRecDepth 100000 in
set_option maxHeartbeats 8000000 in
theorem implVHop (a i e x m : Int) (w : World) : Calls Try.prog 104 #[.agg #[.int .i64 a, .int .i64 i, .int .i64 e, .int .i64 x, .int .i64 m]] w fun en w' => en = .returned (.bool (hopOk ⟨a, i, e, x, m⟩)) ∧ Mk0 w w' := by
  by_cases cl1 : 0 ≤ a
  · by_cases ch1 : a ≤ 7
    · have dh1 : decide (a ≤ 7) = true := by simp; omega
      by_cases cl2 : 0 ≤ i
      · by_cases ch2 : i ≤ 6
        · have dh2 : decide (i ≤ 6) = true := by simp; omega
          by_cases cl3 : 0 ≤ e
          · by_cases ch3 : e ≤ 6
            · have dh3 : decide (e ≤ 6) = true := by simp; omega
              by_cases hne : i = e
              · have n1 : (i != e) = false := by simpa using hne
                have hv : hopOk ⟨a, i, e, x, m⟩ = false := by simp only [hopOk, decide_eq_false_iff_not]; omega
                have HV := Lib.hid hv
                clear hv hne
                go_enter Try.func104, Try.ntmps104
                go_wp2_with go_in
                all_goals (go_ret; exact ⟨retB HV.out.symm, Mk.of_below (by go_grown)⟩)
              · have n1 : (i != e) = true := by simpa using hne
                by_cases cl4 : 0 ≤ x
                · by_cases ch4 : x ≤ 1000000
                  · have dh4 : decide (x ≤ 1000000) = true := by simp; omega
                    by_cases cl5 : 0 ≤ m
                    · by_cases ch5 : m ≤ 2147483646
                      · have dh5 : decide (m ≤ 2147483646) = true := by simp; omega
                        have hv : hopOk ⟨a, i, e, x, m⟩ = true := by simp only [hopOk, decide_eq_true_eq]; omega
                        have HV := Lib.hid hv
                        clear hv hne
                        go_enter Try.func104, Try.ntmps104
                        go_wp2_with go_in
                        all_goals (go_ret; exact ⟨retB HV.out.symm, Mk.of_below (by go_grown)⟩)
                      · have dh5 : decide (m ≤ 2147483646) = false := by simp; omega
                        have hv : hopOk ⟨a, i, e, x, m⟩ = false := by simp only [hopOk, decide_eq_false_iff_not]; omega
                        have HV := Lib.hid hv
                        clear hv hne
                        go_enter Try.func104, Try.ntmps104
                        go_wp2_with go_in
                        all_goals (go_ret; exact ⟨retB HV.out.symm, Mk.of_below (by go_grown)⟩)
                    · have dl5 : m < 0 := by omega
                      have hv : hopOk ⟨a, i, e, x, m⟩ = false := by simp only [hopOk, decide_eq_false_iff_not]; omega
                      have HV := Lib.hid hv
                      clear hv hne
                      go_enter Try.func104, Try.ntmps104
                      go_wp2_with go_in
                      all_goals (go_ret; exact ⟨retB HV.out.symm, Mk.of_below (by go_grown)⟩)
                  · have dh4 : decide (x ≤ 1000000) = false := by simp; omega
                    have hv : hopOk ⟨a, i, e, x, m⟩ = false := by simp only [hopOk, decide_eq_false_iff_not]; omega
                    have HV := Lib.hid hv
                    clear hv hne
                    go_enter Try.func104, Try.ntmps104
                    go_wp2_with go_in
                    all_goals (go_ret; exact ⟨retB HV.out.symm, Mk.of_below (by go_grown)⟩)
                · have dl4 : x < 0 := by omega
                  have hv : hopOk ⟨a, i, e, x, m⟩ = false := by simp only [hopOk, decide_eq_false_iff_not]; omega
                  have HV := Lib.hid hv
                  clear hv hne
                  go_enter Try.func104, Try.ntmps104
                  go_wp2_with go_in
                  all_goals (go_ret; exact ⟨retB HV.out.symm, Mk.of_below (by go_grown)⟩)
            · have dh3 : decide (e ≤ 6) = false := by simp; omega
              have hv : hopOk ⟨a, i, e, x, m⟩ = false := by simp only [hopOk, decide_eq_false_iff_not]; omega
              have HV := Lib.hid hv
              clear hv
              go_enter Try.func104, Try.ntmps104
              go_wp2_with go_in
              all_goals (go_ret; exact ⟨retB HV.out.symm, Mk.of_below (by go_grown)⟩)
          · have dl3 : e < 0 := by omega
            have hv : hopOk ⟨a, i, e, x, m⟩ = false := by simp only [hopOk, decide_eq_false_iff_not]; omega
            have HV := Lib.hid hv
            clear hv
            go_enter Try.func104, Try.ntmps104
            go_wp2_with go_in
            all_goals (go_ret; exact ⟨retB HV.out.symm, Mk.of_below (by go_grown)⟩)
        · have dh2 : decide (i ≤ 6) = false := by simp; omega
          have hv : hopOk ⟨a, i, e, x, m⟩ = false := by simp only [hopOk, decide_eq_false_iff_not]; omega
          have HV := Lib.hid hv
          clear hv
          go_enter Try.func104, Try.ntmps104
          go_wp2_with go_in
          all_goals (go_ret; exact ⟨retB HV.out.symm, Mk.of_below (by go_grown)⟩)
      · have dl2 : i < 0 := by omega
        have hv : hopOk ⟨a, i, e, x, m⟩ = false := by simp only [hopOk, decide_eq_false_iff_not]; omega
        have HV := Lib.hid hv
        clear hv
        go_enter Try.func104, Try.ntmps104
        go_wp2_with go_in
        all_goals (go_ret; exact ⟨retB HV.out.symm, Mk.of_below (by go_grown)⟩)
    · have dh1 : decide (a ≤ 7) = false := by simp; omega
      have hv : hopOk ⟨a, i, e, x, m⟩ = false := by simp only [hopOk, decide_eq_false_iff_not]; omega
      have HV := Lib.hid hv
      clear hv
      go_enter Try.func104, Try.ntmps104
      go_wp2_with go_in
      all_goals (go_ret; exact ⟨retB HV.out.symm, Mk.of_below (by go_grown)⟩)
  · have dl1 : a < 0 := by omega
    have hv : hopOk ⟨a, i, e, x, m⟩ = false := by simp only [hopOk, decide_eq_false_iff_not]; omega
    have HV := Lib.hid hv
    clear hv
    go_enter Try.func104, Try.ntmps104
    go_wp2_with go_in
    all_goals (go_ret; exact ⟨retB HV.out.symm, Mk.of_below (by go_grown)⟩)

end Go.Proofs.Ytbkbkpnpllemfaa
namespace Go.Proofs.Ytbkbkpnpllemfaa
open Go.ChangeShapes Go.WideShapes Go.ChangeAt Go.RowKit
set_option linter.unusedVariables false
def vhB (zs : List TAS) (n : Nat) (t b nd ing eg exp mac : Int) : Bool := hopOk ⟨nd, ing, eg, exp, mac⟩ && (decide (nd < n) && (mac == macV (zs.getD nd.toNat default).key (hopL t b nd ing eg exp)))
theorem key_fits {zs : List TAS} {n q : Nat} (hl : zs.length = n) (hq : q < n) (hz : ∀ y ∈ zs, TAS.fits y) {y : TAS} (hy : y = zs.getD q default) : (Lit.int .i64 y.key).wf = true := by
  subst hy
  have : zs.getD q default ∈ zs := by
    rw [List.getD_eq_getElem?_getD, List.getElem?_eq_getElem (by omega)]
    exact List.getElem_mem _
  exact (hz _ this).2

theorem specVHop_true (a i e x m : Int) (w : World) (hk : hopOk ⟨a, i, e, x, m⟩ = true) : Calls Try.prog 101 #[.agg #[.int .i64 a, .int .i64 i, .int .i64 e, .int .i64 x, .int .i64 m]] w fun en w' => en = .returned (.bool true) ∧ Mk0 w w' :=
  hk ▸ specVHop a i e x m w

theorem specVHop_false (a i e x m : Int) (w : World) (hk : hopOk ⟨a, i, e, x, m⟩ = false) : Calls Try.prog 101 #[.agg #[.int .i64 a, .int .i64 i, .int .i64 e, .int .i64 x, .int .i64 m]] w fun en w' => en = .returned (.bool false) ∧ Mk0 w w' :=
  hk ▸ specVHop a i e x m w

theorem implVHop_true (a i e x m : Int) (w : World) (hk : hopOk ⟨a, i, e, x, m⟩ = true) : Calls Try.prog 104 #[.agg #[.int .i64 a, .int .i64 i, .int .i64 e, .int .i64 x, .int .i64 m]] w fun en w' => en = .returned (.bool true) ∧ Mk0 w w' :=
  hk ▸ implVHop a i e x m w

theorem implVHop_false (a i e x m : Int) (w : World) (hk : hopOk ⟨a, i, e, x, m⟩ = false) : Calls Try.prog 104 #[.agg #[.int .i64 a, .int .i64 i, .int .i64 e, .int .i64 x, .int .i64 m]] w fun en w' => en = .returned (.bool false) ∧ Mk0 w w' :=
  hk ▸ implVHop a i e x m w

end Go.Proofs.Ytbkbkpnpllemfaa
