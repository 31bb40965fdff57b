
/- PolicyFor of both sides. -/
import Derived.Test.YtifcpefaeleceaaSPolicy
import Derived.Test.YtifcpefaeleceaaRet
import Derived.Test.YtifcpefaeleceaaInR
namespace Go.Proofs.Ytifcpefaeleceaa
open Go.ChangeShapes Go.WideShapes Go.ChangeAt Go.RowKit
set_option linter.unusedVariables false
def polOk (x : TPolicy) : Bool := decide ((1 ≤ x.len ∧ x.len ≤ 8) ∧ (0 ≤ x.denied ∧ x.denied ≤ 65535) ∧ (0 ≤ x.closed ∧ x.closed ≤ 65535) ∧ (1 ≤ x.life ∧ x.life ≤ 1000))
def polFor (zs : List TPolicy) (n : Nat) (r : Int) : TPolicy := if 0 ≤ r ∧ r < n ∧ polOk (zs.getD r.toNat default) = true then zs.getD r.toNat default else ⟨8, 0, 0, 100⟩
set_option maxRecDepth 100000 in
set_option maxHeartbeats 8000000 in
theorem specVPol (a d c l : Int) (w : World) : Calls Try.prog 9 #[.agg #[.int .i64 a, .int .i64 d, .int .i64 c, .int .i64 l]] w fun en w' => en = .returned (.bool (polOk ⟨a, d, c, l⟩)) ∧ Mk0 w w' := by
  by_cases cl1 : 1 ≤ a
  · by_cases ch1 : a ≤ 8
    · have dh1 : decide (a ≤ 8) = true := by simp; omega
      by_cases cl2 : 0 ≤ d
      · by_cases ch2 : d ≤ 65535
        · have dh2 : decide (d ≤ 65535) = true := by simp; omega
          by_cases cl3 : 0 ≤ c
          · by_cases ch3 : c ≤ 65535
            · have dh3 : decide (c ≤ 65535) = true := by simp; omega
              by_cases cl4 : 1 ≤ l
              · by_cases ch4 : l ≤ 1000
                · have dh4 : decide (l ≤ 1000) = true := by simp; omega
                  have hv : polOk ⟨a, d, c, l⟩ = true := by simp only [polOk, decide_eq_true_eq]; omega
                  have HV := Lib.hid hv
                  clear hv
                  go_enter Try.func9, Try.ntmps9
                  go_wp2_with go_in
                  all_goals (go_ret; exact ⟨retB HV.out.symm, Mk.of_below (by go_grown)⟩)
                · have dh4 : decide (l ≤ 1000) = false := by simp; omega
                  have hv : polOk ⟨a, d, c, l⟩ = false := by simp only [polOk, decide_eq_false_iff_not]; omega
                  have HV := Lib.hid hv
                  clear hv
                  go_enter Try.func9, Try.ntmps9
                  go_wp2_with go_in
                  all_goals (go_ret; exact ⟨retB HV.out.symm, Mk.of_below (by go_grown)⟩)
              · have dl4 : l < 1 := by omega
                have hv : polOk ⟨a, d, c, l⟩ = false := by simp only [polOk, decide_eq_false_iff_not]; omega
                have HV := Lib.hid hv
                clear hv
                go_enter Try.func9, Try.ntmps9
                go_wp2_with go_in
                all_goals (go_ret; exact ⟨retB HV.out.symm, Mk.of_below (by go_grown)⟩)
            · have dh3 : decide (c ≤ 65535) = false := by simp; omega
              have hv : polOk ⟨a, d, c, l⟩ = false := by simp only [polOk, decide_eq_false_iff_not]; omega
              have HV := Lib.hid hv
              clear hv
              go_enter Try.func9, Try.ntmps9
              go_wp2_with go_in
              all_goals (go_ret; exact ⟨retB HV.out.symm, Mk.of_below (by go_grown)⟩)
          · have dl3 : c < 0 := by omega
            have hv : polOk ⟨a, d, c, l⟩ = false := by simp only [polOk, decide_eq_false_iff_not]; omega
            have HV := Lib.hid hv
            clear hv
            go_enter Try.func9, Try.ntmps9
            go_wp2_with go_in
            all_goals (go_ret; exact ⟨retB HV.out.symm, Mk.of_below (by go_grown)⟩)
        · have dh2 : decide (d ≤ 65535) = false := by simp; omega
          have hv : polOk ⟨a, d, c, l⟩ = false := by simp only [polOk, decide_eq_false_iff_not]; omega
          have HV := Lib.hid hv
          clear hv
          go_enter Try.func9, Try.ntmps9
          go_wp2_with go_in
          all_goals (go_ret; exact ⟨retB HV.out.symm, Mk.of_below (by go_grown)⟩)
      · have dl2 : d < 0 := by omega
        have hv : polOk ⟨a, d, c, l⟩ = false := by simp only [polOk, decide_eq_false_iff_not]; omega
        have HV := Lib.hid hv
        clear hv
        go_enter Try.func9, Try.ntmps9
        go_wp2_with go_in
        all_goals (go_ret; exact ⟨retB HV.out.symm, Mk.of_below (by go_grown)⟩)
    · have dh1 : decide (a ≤ 8) = false := by simp; omega
      have hv : polOk ⟨a, d, c, l⟩ = false := by simp only [polOk, decide_eq_false_iff_not]; omega
      have HV := Lib.hid hv
      clear hv
      go_enter Try.func9, Try.ntmps9
      go_wp2_with go_in
      all_goals (go_ret; exact ⟨retB HV.out.symm, Mk.of_below (by go_grown)⟩)
  · have dl1 : a < 1 := by omega
    have hv : polOk ⟨a, d, c, l⟩ = false := by simp only [polOk, decide_eq_false_iff_not]; omega
    have HV := Lib.hid hv
    clear hv
    go_enter Try.func9, Try.ntmps9
    go_wp2_with go_in
    all_goals (go_ret; exact ⟨retB HV.out.symm, Mk.of_below (by go_grown)⟩)

set_option maxRecDepth 100000 in
set_option maxHeartbeats 4000000 in
theorem specDflt (w : World) : Calls Try.prog 12 #[] w fun e w' => e = .returned (.agg #[.int .i64 8, .int .i64 0, .int .i64 0, .int .i64 100]) ∧ Mk0 w w' := by
  go_enter Try.func12, Try.ntmps12
  go_wp2
  refine bodyPost_ret (v := .agg #[.int .i64 8, .int .i64 0, .int .i64 0, .int .i64 100]) (by simp [results, Try.results12, go_sem]) rfl ⟨rfl, Mk.of_below ?_⟩
  go_grown

set_option maxRecDepth 100000 in
set_option maxHeartbeats 8000000 in
theorem implVPol (a d c l : Int) (w : World) : Calls Try.prog 11 #[.agg #[.int .i64 a, .int .i64 d, .int .i64 c, .int .i64 l]] w fun en w' => en = .returned (.bool (polOk ⟨a, d, c, l⟩)) ∧ Mk0 w w' := by
  by_cases cl1 : 1 ≤ a
  · by_cases ch1 : a ≤ 8
    · have dh1 : decide (a ≤ 8) = true := by simp; omega
      by_cases cl2 : 0 ≤ d
      · by_cases ch2 : d ≤ 65535
        · have dh2 : decide (d ≤ 65535) = true := by simp; omega
          by_cases cl3 : 0 ≤ c
          · by_cases ch3 : c ≤ 65535
            · have dh3 : decide (c ≤ 65535) = true := by simp; omega
              by_cases cl4 : 1 ≤ l
              · by_cases ch4 : l ≤ 1000
                · have dh4 : decide (l ≤ 1000) = true := by simp; omega
                  have hv : polOk ⟨a, d, c, l⟩ = true := by simp only [polOk, decide_eq_true_eq]; omega
                  have HV := Lib.hid hv
                  clear hv
                  go_enter Try.func11, Try.ntmps11
                  go_wp2_with go_in
                  all_goals (go_ret; exact ⟨retB HV.out.symm, Mk.of_below (by go_grown)⟩)
                · have dh4 : decide (l ≤ 1000) = false := by simp; omega
                  have hv : polOk ⟨a, d, c, l⟩ = false := by simp only [polOk, decide_eq_false_iff_not]; omega
                  have HV := Lib.hid hv
                  clear hv
                  go_enter Try.func11, Try.ntmps11
                  go_wp2_with go_in
                  all_goals (go_ret; exact ⟨retB HV.out.symm, Mk.of_below (by go_grown)⟩)
              · have dl4 : l < 1 := by omega
                have hv : polOk ⟨a, d, c, l⟩ = false := by simp only [polOk, decide_eq_false_iff_not]; omega
                have HV := Lib.hid hv
                clear hv
                go_enter Try.func11, Try.ntmps11
                go_wp2_with go_in
                all_goals (go_ret; exact ⟨retB HV.out.symm, Mk.of_below (by go_grown)⟩)
            · have dh3 : decide (c ≤ 65535) = false := by simp; omega
              have hv : polOk ⟨a, d, c, l⟩ = false := by simp only [polOk, decide_eq_false_iff_not]; omega
              have HV := Lib.hid hv
              clear hv
              go_enter Try.func11, Try.ntmps11
              go_wp2_with go_in
              all_goals (go_ret; exact ⟨retB HV.out.symm, Mk.of_below (by go_grown)⟩)
          · have dl3 : c < 0 := by omega
            have hv : polOk ⟨a, d, c, l⟩ = false := by simp only [polOk, decide_eq_false_iff_not]; omega
            have HV := Lib.hid hv
            clear hv
            go_enter Try.func11, Try.ntmps11
            go_wp2_with go_in
            all_goals (go_ret; exact ⟨retB HV.out.symm, Mk.of_below (by go_grown)⟩)
        · have dh2 : decide (d ≤ 65535) = false := by simp; omega
          have hv : polOk ⟨a, d, c, l⟩ = false := by simp only [polOk, decide_eq_false_iff_not]; omega
          have HV := Lib.hid hv
          clear hv
          go_enter Try.func11, Try.ntmps11
          go_wp2_with go_in
          all_goals (go_ret; exact ⟨retB HV.out.symm, Mk.of_below (by go_grown)⟩)
      · have dl2 : d < 0 := by omega
        have hv : polOk ⟨a, d, c, l⟩ = false := by simp only [polOk, decide_eq_false_iff_not]; omega
        have HV := Lib.hid hv
        clear hv
        go_enter Try.func11, Try.ntmps11
        go_wp2_with go_in
        all_goals (go_ret; exact ⟨retB HV.out.symm, Mk.of_below (by go_grown)⟩)
    · have dh1 : decide (a ≤ 8) = false := by simp; omega
      have hv : polOk ⟨a, d, c, l⟩ = false := by simp only [polOk, decide_eq_false_iff_not]; omega
      have HV := Lib.hid hv
      clear hv
      go_enter Try.func11, Try.ntmps11
      go_wp2_with go_in
      all_goals (go_ret; exact ⟨retB HV.out.symm, Mk.of_below (by go_grown)⟩)
  · have dl1 : a < 1 := by omega
    have hv : polOk ⟨a, d, c, l⟩ = false := by simp only [polOk, decide_eq_false_iff_not]; omega
    have HV := Lib.hid hv
    clear hv
    go_enter Try.func11, Try.ntmps11
    go_wp2_with go_in
    all_goals (go_ret; exact ⟨retB HV.out.symm, Mk.of_below (by go_grown)⟩)

set_option maxRecDepth 100000 in
set_option maxHeartbeats 4000000 in
theorem implDflt (w : World) : Calls Try.prog 13 #[] w fun e w' => e = .returned (.agg #[.int .i64 8, .int .i64 0, .int .i64 0, .int .i64 100]) ∧ Mk0 w w' := by
  go_enter Try.func13, Try.ntmps13
  go_wp2
  refine bodyPost_ret (v := .agg #[.int .i64 8, .int .i64 0, .int .i64 0, .int .i64 100]) (by simp [results, Try.results13, go_sem]) rfl ⟨rfl, Mk.of_below ?_⟩
  go_grown

set_option maxRecDepth 100000 in
set_option maxHeartbeats 4000000 in
theorem specPolFor (a : Option Addr) (n c B : Nat) (zs : List TPolicy) (r : Int) (w : World) (h : HasPolicy w B a n zs) (hB : B ≤ w.heap.size) (hn : n ≤ 1048576) :
    Calls Try.prog 25 #[.slice a n c, .int .i64 r] w fun e w' => e = .returned (.agg #[.int .i64 (polFor zs n r).len, .int .i64 (polFor zs n r).denied, .int .i64 (polFor zs n r).closed, .int .i64 (polFor zs n r).life]) ∧ Mk0 w w' := by
  by_cases hr : r < 0 ∨ (n : Int) ≤ r
  · have HV := Lib.hid (show polFor zs n r = ⟨8, 0, 0, 100⟩ from if_neg (by omega))
    have HR := Lib.hid hr
    clear hr
    go_enter Try.func25, Try.ntmps25
    go_wp2_with fail
    have M0 := Mk.alloc w (Obj.cells #[Value.int .i64 0, Value.int .i64 0, Value.int .i64 0, Value.int .i64 0] 25)
    have K0 : (w.alloc (Obj.cells #[Value.int .i64 0, Value.int .i64 0, Value.int .i64 0, Value.int .i64 0] 25)).cell? ⟨w.heap.size, 0, none⟩ = some (.int .i64 0) := by simp [go_sem]
    have K1 : (w.alloc (Obj.cells #[Value.int .i64 0, Value.int .i64 0, Value.int .i64 0, Value.int .i64 0] 25)).cell? ⟨w.heap.size, 1, none⟩ = some (.int .i64 0) := by simp [go_sem]
    have K2 : (w.alloc (Obj.cells #[Value.int .i64 0, Value.int .i64 0, Value.int .i64 0, Value.int .i64 0] 25)).cell? ⟨w.heap.size, 2, none⟩ = some (.int .i64 0) := by simp [go_sem]
    have K3 : (w.alloc (Obj.cells #[Value.int .i64 0, Value.int .i64 0, Value.int .i64 0, Value.int .i64 0] 25)).cell? ⟨w.heap.size, 3, none⟩ = some (.int .i64 0) := by simp [go_sem]
    have F0 : (w.alloc (Obj.cells #[Value.int .i64 0, Value.int .i64 0, Value.int .i64 0, Value.int .i64 0] 25)).frozen? ⟨w.heap.size, 0, none⟩ = false := by simp [go_sem]
    have F1 : (w.alloc (Obj.cells #[Value.int .i64 0, Value.int .i64 0, Value.int .i64 0, Value.int .i64 0] 25)).frozen? ⟨w.heap.size, 1, none⟩ = false := by simp [go_sem]
    have F2 : (w.alloc (Obj.cells #[Value.int .i64 0, Value.int .i64 0, Value.int .i64 0, Value.int .i64 0] 25)).frozen? ⟨w.heap.size, 2, none⟩ = false := by simp [go_sem]
    have F3 : (w.alloc (Obj.cells #[Value.int .i64 0, Value.int .i64 0, Value.int .i64 0, Value.int .i64 0] 25)).frozen? ⟨w.heap.size, 3, none⟩ = false := by simp [go_sem]
    refine (specInNo _ _ _ _ (by have := HR.out; omega)).mono ?_
    rintro e w' ⟨rfl, rfl⟩
    go_wp2_with fail
    refine (specDflt _).mono ?_
    rintro e w2 ⟨rfl, m2⟩
    have M1 := M0.trans m2
    replace F0 := m2.frozenAt K0 F0
    replace K0 := m2.cellAt K0
    replace F1 := m2.frozenAt K1 F1
    replace K1 := m2.cellAt K1
    replace F2 := m2.frozenAt K2 F2
    replace K2 := m2.cellAt K2
    replace F3 := m2.frozenAt K3 F3
    replace K3 := m2.cellAt K3
    go_wp2_with fail
    refine bodyPost_ret (v := .agg #[.int .i64 8, .int .i64 0, .int .i64 0, .int .i64 100]) (by simp [results, Try.results25, go_sem, K0, K1, K2, K3]) rfl ⟨by rw [HV.out], ((((M1.put _ _ (Nat.le_refl _)).put _ _ (Nat.le_refl _)).put _ _ (Nat.le_refl _)).put _ _ (Nat.le_refl _))⟩
  · obtain ⟨q, rfl⟩ : ∃ q : Nat, r = (q : Int) := ⟨r.toNat, by omega⟩
    have hq : q < n := by omega
    clear hr
    obtain ⟨b, off, x, rfl, hb, hx, d0, d1, d2, d3⟩ := HasPolicy.at _ _ _ _ _ _ h hq
    have hbw := Nat.lt_of_lt_of_le hb hB
    have hqi : (0 : Int) ≤ (q : Int) ∧ (q : Int) < (n : Int) := by omega
    cases hk : polOk x
    · have HV := Lib.hid (show polFor zs n (q : Int) = ⟨8, 0, 0, 100⟩ by unfold polFor; rw [show ((q : Nat) : Int).toNat = q by omega, ← hx.out, hk]; simp)
      have HK := Lib.hid hk
      clear hk hqi
      go_enter Try.func25, Try.ntmps25
      go_wp2_with fail
      have M0 := Mk.alloc w (Obj.cells #[Value.int .i64 0, Value.int .i64 0, Value.int .i64 0, Value.int .i64 0] 25)
      have K0 : (w.alloc (Obj.cells #[Value.int .i64 0, Value.int .i64 0, Value.int .i64 0, Value.int .i64 0] 25)).cell? ⟨w.heap.size, 0, none⟩ = some (.int .i64 0) := by simp [go_sem]
      have K1 : (w.alloc (Obj.cells #[Value.int .i64 0, Value.int .i64 0, Value.int .i64 0, Value.int .i64 0] 25)).cell? ⟨w.heap.size, 1, none⟩ = some (.int .i64 0) := by simp [go_sem]
      have K2 : (w.alloc (Obj.cells #[Value.int .i64 0, Value.int .i64 0, Value.int .i64 0, Value.int .i64 0] 25)).cell? ⟨w.heap.size, 2, none⟩ = some (.int .i64 0) := by simp [go_sem]
      have K3 : (w.alloc (Obj.cells #[Value.int .i64 0, Value.int .i64 0, Value.int .i64 0, Value.int .i64 0] 25)).cell? ⟨w.heap.size, 3, none⟩ = some (.int .i64 0) := by simp [go_sem]
      have F0 : (w.alloc (Obj.cells #[Value.int .i64 0, Value.int .i64 0, Value.int .i64 0, Value.int .i64 0] 25)).frozen? ⟨w.heap.size, 0, none⟩ = false := by simp [go_sem]
      have F1 : (w.alloc (Obj.cells #[Value.int .i64 0, Value.int .i64 0, Value.int .i64 0, Value.int .i64 0] 25)).frozen? ⟨w.heap.size, 1, none⟩ = false := by simp [go_sem]
      have F2 : (w.alloc (Obj.cells #[Value.int .i64 0, Value.int .i64 0, Value.int .i64 0, Value.int .i64 0] 25)).frozen? ⟨w.heap.size, 2, none⟩ = false := by simp [go_sem]
      have F3 : (w.alloc (Obj.cells #[Value.int .i64 0, Value.int .i64 0, Value.int .i64 0, Value.int .i64 0] 25)).frozen? ⟨w.heap.size, 3, none⟩ = false := by simp [go_sem]
      replace d0 := M0.cellAt d0
      replace d1 := M0.cellAt d1
      replace d2 := M0.cellAt d2
      replace d3 := M0.cellAt d3
      refine (specInYes _ _ _ _ (by omega) (by omega)).mono ?_
      rintro e w' ⟨rfl, rfl⟩
      go_wp2_with fail
      refine (specVPol _ _ _ _ _).mono ?_
      rintro e w1 ⟨he, m1⟩
      rw [HK.out] at he
      subst he
      have M1 := M0.trans m1
      replace F0 := m1.frozenAt K0 F0
      replace K0 := m1.cellAt K0
      replace F1 := m1.frozenAt K1 F1
      replace K1 := m1.cellAt K1
      replace F2 := m1.frozenAt K2 F2
      replace K2 := m1.cellAt K2
      replace F3 := m1.frozenAt K3 F3
      replace K3 := m1.cellAt K3
      replace d0 := m1.cellAt d0
      replace d1 := m1.cellAt d1
      replace d2 := m1.cellAt d2
      replace d3 := m1.cellAt d3
      go_wp2_with fail
      refine (specDflt _).mono ?_
      rintro e w2 ⟨rfl, m2⟩
      have M2 := M1.trans m2
      replace F0 := m2.frozenAt K0 F0
      replace K0 := m2.cellAt K0
      replace F1 := m2.frozenAt K1 F1
      replace K1 := m2.cellAt K1
      replace F2 := m2.frozenAt K2 F2
      replace K2 := m2.cellAt K2
      replace F3 := m2.frozenAt K3 F3
      replace K3 := m2.cellAt K3
      go_wp2_with fail
      refine bodyPost_ret (v := .agg #[.int .i64 8, .int .i64 0, .int .i64 0, .int .i64 100]) (by simp [results, Try.results25, go_sem, K0, K1, K2, K3]) rfl ⟨by rw [HV.out], ((((M2.put _ _ (Nat.le_refl _)).put _ _ (Nat.le_refl _)).put _ _ (Nat.le_refl _)).put _ _ (Nat.le_refl _))⟩
    · have HV := Lib.hid (show polFor zs n (q : Int) = x by unfold polFor; rw [show ((q : Nat) : Int).toNat = q by omega, ← hx.out, if_pos ⟨hqi.1, hqi.2, hk⟩])
      have HK := Lib.hid hk
      clear hk hqi
      go_enter Try.func25, Try.ntmps25
      go_wp2_with fail
      have M0 := Mk.alloc w (Obj.cells #[Value.int .i64 0, Value.int .i64 0, Value.int .i64 0, Value.int .i64 0] 25)
      have K0 : (w.alloc (Obj.cells #[Value.int .i64 0, Value.int .i64 0, Value.int .i64 0, Value.int .i64 0] 25)).cell? ⟨w.heap.size, 0, none⟩ = some (.int .i64 0) := by simp [go_sem]
      have K1 : (w.alloc (Obj.cells #[Value.int .i64 0, Value.int .i64 0, Value.int .i64 0, Value.int .i64 0] 25)).cell? ⟨w.heap.size, 1, none⟩ = some (.int .i64 0) := by simp [go_sem]
      have K2 : (w.alloc (Obj.cells #[Value.int .i64 0, Value.int .i64 0, Value.int .i64 0, Value.int .i64 0] 25)).cell? ⟨w.heap.size, 2, none⟩ = some (.int .i64 0) := by simp [go_sem]
      have K3 : (w.alloc (Obj.cells #[Value.int .i64 0, Value.int .i64 0, Value.int .i64 0, Value.int .i64 0] 25)).cell? ⟨w.heap.size, 3, none⟩ = some (.int .i64 0) := by simp [go_sem]
      have F0 : (w.alloc (Obj.cells #[Value.int .i64 0, Value.int .i64 0, Value.int .i64 0, Value.int .i64 0] 25)).frozen? ⟨w.heap.size, 0, none⟩ = false := by simp [go_sem]
      have F1 : (w.alloc (Obj.cells #[Value.int .i64 0, Value.int .i64 0, Value.int .i64 0, Value.int .i64 0] 25)).frozen? ⟨w.heap.size, 1, none⟩ = false := by simp [go_sem]
      have F2 : (w.alloc (Obj.cells #[Value.int .i64 0, Value.int .i64 0, Value.int .i64 0, Value.int .i64 0] 25)).frozen? ⟨w.heap.size, 2, none⟩ = false := by simp [go_sem]
      have F3 : (w.alloc (Obj.cells #[Value.int .i64 0, Value.int .i64 0, Value.int .i64 0, Value.int .i64 0] 25)).frozen? ⟨w.heap.size, 3, none⟩ = false := by simp [go_sem]
      replace d0 := M0.cellAt d0
      replace d1 := M0.cellAt d1
      replace d2 := M0.cellAt d2
      replace d3 := M0.cellAt d3
      refine (specInYes _ _ _ _ (by omega) (by omega)).mono ?_
      rintro e w' ⟨rfl, rfl⟩
      go_wp2_with fail
      refine (specVPol _ _ _ _ _).mono ?_
      rintro e w1 ⟨he, m1⟩
      rw [HK.out] at he
      subst he
      have M1 := M0.trans m1
      replace F0 := m1.frozenAt K0 F0
      replace K0 := m1.cellAt K0
      replace F1 := m1.frozenAt K1 F1
      replace K1 := m1.cellAt K1
      replace F2 := m1.frozenAt K2 F2
      replace K2 := m1.cellAt K2
      replace F3 := m1.frozenAt K3 F3
      replace K3 := m1.cellAt K3
      replace d0 := m1.cellAt d0
      replace d1 := m1.cellAt d1
      replace d2 := m1.cellAt d2
      replace d3 := m1.cellAt d3
      go_wp2_with fail
      refine bodyPost_ret (v := .agg #[.int .i64 x.len, .int .i64 x.denied, .int .i64 x.closed, .int .i64 x.life]) (by simp [results, Try.results25, go_sem, K0, K1, K2, K3]) rfl ⟨by rw [HV.out], ((((M1.put _ _ (Nat.le_refl _)).put _ _ (Nat.le_refl _)).put _ _ (Nat.le_refl _)).put _ _ (Nat.le_refl _))⟩

set_option maxRecDepth 100000 in
set_option maxHeartbeats 4000000 in
theorem implPolFor (a : Option Addr) (n c B : Nat) (zs : List TPolicy) (r : Int) (w : World) (h : HasPolicy w B a n zs) (hB : B ≤ w.heap.size) (hn : n ≤ 1048576) :
    Calls Try.prog 27 #[.slice a n c, .int .i64 r] w fun e w' => e = .returned (.agg #[.int .i64 (polFor zs n r).len, .int .i64 (polFor zs n r).denied, .int .i64 (polFor zs n r).closed, .int .i64 (polFor zs n r).life]) ∧ Mk0 w w' := by
  by_cases hr : r < 0 ∨ (n : Int) ≤ r
  · have HV := Lib.hid (show polFor zs n r = ⟨8, 0, 0, 100⟩ from if_neg (by omega))
    have HR := Lib.hid hr
    clear hr
    go_enter Try.func27, Try.ntmps27
    go_wp2_with fail
    have M0 := Mk.alloc w (Obj.cells #[Value.int .i64 0, Value.int .i64 0, Value.int .i64 0, Value.int .i64 0] 25)
    have K0 : (w.alloc (Obj.cells #[Value.int .i64 0, Value.int .i64 0, Value.int .i64 0, Value.int .i64 0] 25)).cell? ⟨w.heap.size, 0, none⟩ = some (.int .i64 0) := by simp [go_sem]
    have K1 : (w.alloc (Obj.cells #[Value.int .i64 0, Value.int .i64 0, Value.int .i64 0, Value.int .i64 0] 25)).cell? ⟨w.heap.size, 1, none⟩ = some (.int .i64 0) := by simp [go_sem]
    have K2 : (w.alloc (Obj.cells #[Value.int .i64 0, Value.int .i64 0, Value.int .i64 0, Value.int .i64 0] 25)).cell? ⟨w.heap.size, 2, none⟩ = some (.int .i64 0) := by simp [go_sem]
    have K3 : (w.alloc (Obj.cells #[Value.int .i64 0, Value.int .i64 0, Value.int .i64 0, Value.int .i64 0] 25)).cell? ⟨w.heap.size, 3, none⟩ = some (.int .i64 0) := by simp [go_sem]
    have F0 : (w.alloc (Obj.cells #[Value.int .i64 0, Value.int .i64 0, Value.int .i64 0, Value.int .i64 0] 25)).frozen? ⟨w.heap.size, 0, none⟩ = false := by simp [go_sem]
    have F1 : (w.alloc (Obj.cells #[Value.int .i64 0, Value.int .i64 0, Value.int .i64 0, Value.int .i64 0] 25)).frozen? ⟨w.heap.size, 1, none⟩ = false := by simp [go_sem]
    have F2 : (w.alloc (Obj.cells #[Value.int .i64 0, Value.int .i64 0, Value.int .i64 0, Value.int .i64 0] 25)).frozen? ⟨w.heap.size, 2, none⟩ = false := by simp [go_sem]
    have F3 : (w.alloc (Obj.cells #[Value.int .i64 0, Value.int .i64 0, Value.int .i64 0, Value.int .i64 0] 25)).frozen? ⟨w.heap.size, 3, none⟩ = false := by simp [go_sem]
    refine (implInNo _ _ _ _ (by have := HR.out; omega)).mono ?_
    rintro e w' ⟨rfl, rfl⟩
    go_wp2_with fail
    refine (implDflt _).mono ?_
    rintro e w2 ⟨rfl, m2⟩
    have M1 := M0.trans m2
    replace F0 := m2.frozenAt K0 F0
    replace K0 := m2.cellAt K0
    replace F1 := m2.frozenAt K1 F1
    replace K1 := m2.cellAt K1
    replace F2 := m2.frozenAt K2 F2
    replace K2 := m2.cellAt K2
    replace F3 := m2.frozenAt K3 F3
    replace K3 := m2.cellAt K3
    go_wp2_with fail
    refine bodyPost_ret (v := .agg #[.int .i64 8, .int .i64 0, .int .i64 0, .int .i64 100]) (by simp [results, Try.results27, go_sem, K0, K1, K2, K3]) rfl ⟨by rw [HV.out], ((((M1.put _ _ (Nat.le_refl _)).put _ _ (Nat.le_refl _)).put _ _ (Nat.le_refl _)).put _ _ (Nat.le_refl _))⟩
  · obtain ⟨q, rfl⟩ : ∃ q : Nat, r = (q : Int) := ⟨r.toNat, by omega⟩
    have hq : q < n := by omega
    clear hr
    obtain ⟨b, off, x, rfl, hb, hx, d0, d1, d2, d3⟩ := HasPolicy.at _ _ _ _ _ _ h hq
    have hbw := Nat.lt_of_lt_of_le hb hB
    have hqi : (0 : Int) ≤ (q : Int) ∧ (q : Int) < (n : Int) := by omega
    cases hk : polOk x
    · have HV := Lib.hid (show polFor zs n (q : Int) = ⟨8, 0, 0, 100⟩ by unfold polFor; rw [show ((q : Nat) : Int).toNat = q by omega, ← hx.out, hk]; simp)
      have HK := Lib.hid hk
      clear hk hqi
      go_enter Try.func27, Try.ntmps27
      go_wp2_with fail
      have M0 := Mk.alloc w (Obj.cells #[Value.int .i64 0, Value.int .i64 0, Value.int .i64 0, Value.int .i64 0] 25)
      have K0 : (w.alloc (Obj.cells #[Value.int .i64 0, Value.int .i64 0, Value.int .i64 0, Value.int .i64 0] 25)).cell? ⟨w.heap.size, 0, none⟩ = some (.int .i64 0) := by simp [go_sem]
      have K1 : (w.alloc (Obj.cells #[Value.int .i64 0, Value.int .i64 0, Value.int .i64 0, Value.int .i64 0] 25)).cell? ⟨w.heap.size, 1, none⟩ = some (.int .i64 0) := by simp [go_sem]
      have K2 : (w.alloc (Obj.cells #[Value.int .i64 0, Value.int .i64 0, Value.int .i64 0, Value.int .i64 0] 25)).cell? ⟨w.heap.size, 2, none⟩ = some (.int .i64 0) := by simp [go_sem]
      have K3 : (w.alloc (Obj.cells #[Value.int .i64 0, Value.int .i64 0, Value.int .i64 0, Value.int .i64 0] 25)).cell? ⟨w.heap.size, 3, none⟩ = some (.int .i64 0) := by simp [go_sem]
      have F0 : (w.alloc (Obj.cells #[Value.int .i64 0, Value.int .i64 0, Value.int .i64 0, Value.int .i64 0] 25)).frozen? ⟨w.heap.size, 0, none⟩ = false := by simp [go_sem]
      have F1 : (w.alloc (Obj.cells #[Value.int .i64 0, Value.int .i64 0, Value.int .i64 0, Value.int .i64 0] 25)).frozen? ⟨w.heap.size, 1, none⟩ = false := by simp [go_sem]
      have F2 : (w.alloc (Obj.cells #[Value.int .i64 0, Value.int .i64 0, Value.int .i64 0, Value.int .i64 0] 25)).frozen? ⟨w.heap.size, 2, none⟩ = false := by simp [go_sem]
      have F3 : (w.alloc (Obj.cells #[Value.int .i64 0, Value.int .i64 0, Value.int .i64 0, Value.int .i64 0] 25)).frozen? ⟨w.heap.size, 3, none⟩ = false := by simp [go_sem]
      replace d0 := M0.cellAt d0
      replace d1 := M0.cellAt d1
      replace d2 := M0.cellAt d2
      replace d3 := M0.cellAt d3
      refine (implInYes _ _ _ _ (by omega) (by omega)).mono ?_
      rintro e w' ⟨rfl, rfl⟩
      go_wp2_with fail
      refine (implVPol _ _ _ _ _).mono ?_
      rintro e w1 ⟨he, m1⟩
      rw [HK.out] at he
      subst he
      have M1 := M0.trans m1
      replace F0 := m1.frozenAt K0 F0
      replace K0 := m1.cellAt K0
      replace F1 := m1.frozenAt K1 F1
      replace K1 := m1.cellAt K1
      replace F2 := m1.frozenAt K2 F2
      replace K2 := m1.cellAt K2
      replace F3 := m1.frozenAt K3 F3
      replace K3 := m1.cellAt K3
      replace d0 := m1.cellAt d0
      replace d1 := m1.cellAt d1
      replace d2 := m1.cellAt d2
      replace d3 := m1.cellAt d3
      go_wp2_with fail
      refine (implDflt _).mono ?_
      rintro e w2 ⟨rfl, m2⟩
      have M2 := M1.trans m2
      replace F0 := m2.frozenAt K0 F0
      replace K0 := m2.cellAt K0
      replace F1 := m2.frozenAt K1 F1
      replace K1 := m2.cellAt K1
      replace F2 := m2.frozenAt K2 F2
      replace K2 := m2.cellAt K2
      replace F3 := m2.frozenAt K3 F3
      replace K3 := m2.cellAt K3
      go_wp2_with fail
      refine bodyPost_ret (v := .agg #[.int .i64 8, .int .i64 0, .int .i64 0, .int .i64 100]) (by simp [results, Try.results27, go_sem, K0, K1, K2, K3]) rfl ⟨by rw [HV.out], ((((M2.put _ _ (Nat.le_refl _)).put _ _ (Nat.le_refl _)).put _ _ (Nat.le_refl _)).put _ _ (Nat.le_refl _))⟩
    · have HV := Lib.hid (show polFor zs n (q : Int) = x by unfold polFor; rw [show ((q : Nat) : Int).toNat = q by omega, ← hx.out, if_pos ⟨hqi.1, hqi.2, hk⟩])
      have HK := Lib.hid hk
      clear hk hqi
      go_enter Try.func27, Try.ntmps27
      go_wp2_with fail
      have M0 := Mk.alloc w (Obj.cells #[Value.int .i64 0, Value.int .i64 0, Value.int .i64 0, Value.int .i64 0] 25)
      have K0 : (w.alloc (Obj.cells #[Value.int .i64 0, Value.int .i64 0, Value.int .i64 0, Value.int .i64 0] 25)).cell? ⟨w.heap.size, 0, none⟩ = some (.int .i64 0) := by simp [go_sem]
      have K1 : (w.alloc (Obj.cells #[Value.int .i64 0, Value.int .i64 0, Value.int .i64 0, Value.int .i64 0] 25)).cell? ⟨w.heap.size, 1, none⟩ = some (.int .i64 0) := by simp [go_sem]
      have K2 : (w.alloc (Obj.cells #[Value.int .i64 0, Value.int .i64 0, Value.int .i64 0, Value.int .i64 0] 25)).cell? ⟨w.heap.size, 2, none⟩ = some (.int .i64 0) := by simp [go_sem]
      have K3 : (w.alloc (Obj.cells #[Value.int .i64 0, Value.int .i64 0, Value.int .i64 0, Value.int .i64 0] 25)).cell? ⟨w.heap.size, 3, none⟩ = some (.int .i64 0) := by simp [go_sem]
      have F0 : (w.alloc (Obj.cells #[Value.int .i64 0, Value.int .i64 0, Value.int .i64 0, Value.int .i64 0] 25)).frozen? ⟨w.heap.size, 0, none⟩ = false := by simp [go_sem]
      have F1 : (w.alloc (Obj.cells #[Value.int .i64 0, Value.int .i64 0, Value.int .i64 0, Value.int .i64 0] 25)).frozen? ⟨w.heap.size, 1, none⟩ = false := by simp [go_sem]
      have F2 : (w.alloc (Obj.cells #[Value.int .i64 0, Value.int .i64 0, Value.int .i64 0, Value.int .i64 0] 25)).frozen? ⟨w.heap.size, 2, none⟩ = false := by simp [go_sem]
      have F3 : (w.alloc (Obj.cells #[Value.int .i64 0, Value.int .i64 0, Value.int .i64 0, Value.int .i64 0] 25)).frozen? ⟨w.heap.size, 3, none⟩ = false := by simp [go_sem]
      replace d0 := M0.cellAt d0
      replace d1 := M0.cellAt d1
      replace d2 := M0.cellAt d2
      replace d3 := M0.cellAt d3
      refine (implInYes _ _ _ _ (by omega) (by omega)).mono ?_
      rintro e w' ⟨rfl, rfl⟩
      go_wp2_with fail
      refine (implVPol _ _ _ _ _).mono ?_
      rintro e w1 ⟨he, m1⟩
      rw [HK.out] at he
      subst he
      have M1 := M0.trans m1
      replace F0 := m1.frozenAt K0 F0
      replace K0 := m1.cellAt K0
      replace F1 := m1.frozenAt K1 F1
      replace K1 := m1.cellAt K1
      replace F2 := m1.frozenAt K2 F2
      replace K2 := m1.cellAt K2
      replace F3 := m1.frozenAt K3 F3
      replace K3 := m1.cellAt K3
      replace d0 := m1.cellAt d0
      replace d1 := m1.cellAt d1
      replace d2 := m1.cellAt d2
      replace d3 := m1.cellAt d3
      go_wp2_with fail
      refine bodyPost_ret (v := .agg #[.int .i64 x.len, .int .i64 x.denied, .int .i64 x.closed, .int .i64 x.life]) (by simp [results, Try.results27, go_sem, K0, K1, K2, K3]) rfl ⟨by rw [HV.out], ((((M1.put _ _ (Nat.le_refl _)).put _ _ (Nat.le_refl _)).put _ _ (Nat.le_refl _)).put _ _ (Nat.le_refl _))⟩

set_option maxRecDepth 100000 in
set_option maxHeartbeats 4000000 in
theorem szPolicySC (a : Option Addr) (n c : Nat) (l : Int) (w : World) (h0 : 0 ≤ l) (h1 : l ≤ 1048576) (hn : (n : Int) ≤ l) : Calls Try.prog 24 #[.slice a n c, .int .i64 l] w fun e w' => e = .returned (.int .i64 (l - n)) ∧ w = w' := by
  go_enter Try.func24, Try.ntmps24
  go_wp2
  go_ret
  exact ⟨rfl, rfl⟩
set_option maxRecDepth 100000 in
set_option maxHeartbeats 4000000 in
theorem szPolicySB (a : Option Addr) (n c : Nat) (l : Int) (w : World) (h0 : 0 ≤ l) (h1 : l ≤ 1048576) (hn : l < (n : Int)) (hm : n ≤ 9223372036854775807) : Calls Try.prog 24 #[.slice a n c, .int .i64 l] w fun e w' => e = .returned (.int .i64 (-1)) ∧ w = w' := by
  go_enter Try.func24, Try.ntmps24
  go_wp2
  go_ret
  exact ⟨rfl, rfl⟩
end Go.Proofs.Ytifcpefaeleceaa
