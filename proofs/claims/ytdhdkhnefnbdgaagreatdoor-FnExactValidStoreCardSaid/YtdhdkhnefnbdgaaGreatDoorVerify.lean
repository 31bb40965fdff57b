
/- ValidHop of both sides. -/
import Derived.Test.YtdhdkhnefnbdgaaGreatDoorSHop
import Derived.Test.YtdhdkhnefnbdgaaGreatDoorRow
import Derived.Test.YtdhdkhnefnbdgaaGreatDoorCTopology
import Derived.Test.YtdhdkhnefnbdgaaGreatDoorHop
import Derived.Test.YtdhdkhnefnbdgaaGreatDoorInR
import Derived.Deep.RegionHeld3
namespace Go.Proofs.YtdhdkhnefnbdgaaGreatDoor
open Go.ChangeShapes Go.WideShapes Go.ChangeAt Go.RowKit
set_option linter.unusedVariables false
def hopOk (x : THop) : Bool := decide ((0 ≤ x.nd ∧ x.nd ≤ 7) ∧ (0 ≤ x.ing ∧ x.ing ≤ 6) ∧ (0 ≤ x.eg ∧ x.eg ≤ 6) ∧ x.ing ≠ x.eg ∧ (0 ≤ x.exp ∧ x.exp ≤ 1000000) ∧ (0 ≤ x.mac ∧ x.mac ≤ 2147483646))
set_option maxRecDepth 100000 in
set_option maxHeartbeats 8000000 in
theorem specVHop (a i e x m : Int) (w : World) : Calls Tryz.prog 71 #[.agg #[.int .i64 a, .int .i64 i, .int .i64 e, .int .i64 x, .int .i64 m]] w fun en w' => en = .returned (.bool (hopOk ⟨a, i, e, x, m⟩)) ∧ Mk0 w w' := by
  by_cases cl1 : 0 ≤ a
  · by_cases ch1 : a ≤ 7
    · have dh1 : decide (a ≤ 7) = true := by simp; omega
      by_cases cl2 : 0 ≤ i
      · by_cases ch2 : i ≤ 6
        · have dh2 : decide (i ≤ 6) = true := by simp; omega
          by_cases cl3 : 0 ≤ e
          · by_cases ch3 : e ≤ 6
            · have dh3 : decide (e ≤ 6) = true := by simp; omega
              by_cases hne : i = e
              · have n1 : (i != e) = false := by simpa using hne
                have hv : hopOk ⟨a, i, e, x, m⟩ = false := by simp only [hopOk, decide_eq_false_iff_not]; omega
                have HV := Lib.hid hv
                clear hv hne
                go_enter Tryz.func71, Tryz.ntmps71
                go_wp2_with go_in
                all_goals (go_ret; exact ⟨retB HV.out.symm, Mk.of_below (by go_grown)⟩)
              · have n1 : (i != e) = true := by simpa using hne
                by_cases cl4 : 0 ≤ x
                · by_cases ch4 : x ≤ 1000000
                  · have dh4 : decide (x ≤ 1000000) = true := by simp; omega
                    by_cases cl5 : 0 ≤ m
                    · by_cases ch5 : m ≤ 2147483646
                      · have dh5 : decide (m ≤ 2147483646) = true := by simp; omega
                        have hv : hopOk ⟨a, i, e, x, m⟩ = true := by simp only [hopOk, decide_eq_true_eq]; omega
                        have HV := Lib.hid hv
                        clear hv hne
                        go_enter Tryz.func71, Tryz.ntmps71
                        go_wp2_with go_in
                        all_goals (go_ret; exact ⟨retB HV.out.symm, Mk.of_below (by go_grown)⟩)
                      · have dh5 : decide (m ≤ 2147483646) = false := by simp; omega
                        have hv : hopOk ⟨a, i, e, x, m⟩ = false := by simp only [hopOk, decide_eq_false_iff_not]; omega
                        have HV := Lib.hid hv
                        clear hv hne
                        go_enter Tryz.func71, Tryz.ntmps71
                        go_wp2_with go_in
                        all_goals (go_ret; exact ⟨retB HV.out.symm, Mk.of_below (by go_grown)⟩)
                    · have dl5 : m < 0 := by omega
                      have hv : hopOk ⟨a, i, e, x, m⟩ = false := by simp only [hopOk, decide_eq_false_iff_not]; omega
                      have HV := Lib.hid hv
                      clear hv hne
                      go_enter Tryz.func71, Tryz.ntmps71
                      go_wp2_with go_in
                      all_goals (go_ret; exact ⟨retB HV.out.symm, Mk.of_below (by go_grown)⟩)
                  · have dh4 : decide (x ≤ 1000000) = false := by simp; omega
                    have hv : hopOk ⟨a, i, e, x, m⟩ = false := by simp only [hopOk, decide_eq_false_iff_not]; omega
                    have HV := Lib.hid hv
                    clear hv hne
                    go_enter Tryz.func71, Tryz.ntmps71
                    go_wp2_with go_in
                    all_goals (go_ret; exact ⟨retB HV.out.symm, Mk.of_below (by go_grown)⟩)
                · have dl4 : x < 0 := by omega
                  have hv : hopOk ⟨a, i, e, x, m⟩ = false := by simp only [hopOk, decide_eq_false_iff_not]; omega
                  have HV := Lib.hid hv
                  clear hv hne
                  go_enter Tryz.func71, Tryz.ntmps71
                  go_wp2_with go_in
                  all_goals (go_ret; exact ⟨retB HV.out.symm, Mk.of_below (by go_grown)⟩)
            · have dh3 : decide (e ≤ 6) = false := by simp; omega
              have hv : hopOk ⟨a, i, e, x, m⟩ = false := by simp only [hopOk, decide_eq_false_iff_not]; omega
              have HV := Lib.hid hv
              clear hv
              go_enter Tryz.func71, Tryz.ntmps71
              go_wp2_with go_in
              all_goals (go_ret; exact ⟨retB HV.out.symm, Mk.of_below (by go_grown)⟩)
          · have dl3 : e < 0 := by omega
            have hv : hopOk ⟨a, i, e, x, m⟩ = false := by simp only [hopOk, decide_eq_false_iff_not]; omega
            have HV := Lib.hid hv
            clear hv
            go_enter Tryz.func71, Tryz.ntmps71
            go_wp2_with go_in
            all_goals (go_ret; exact ⟨retB HV.out.symm, Mk.of_below (by go_grown)⟩)
        · have dh2 : decide (i ≤ 6) = false := by simp; omega
          have hv : hopOk ⟨a, i, e, x, m⟩ = false := by simp only [hopOk, decide_eq_false_iff_not]; omega
          have HV := Lib.hid hv
          clear hv
          go_enter Tryz.func71, Tryz.ntmps71
          go_wp2_with go_in
          all_goals (go_ret; exact ⟨retB HV.out.symm, Mk.of_below (by go_grown)⟩)
      · have dl2 : i < 0 := by omega
        have hv : hopOk ⟨a, i, e, x, m⟩ = false := by simp only [hopOk, decide_eq_false_iff_not]; omega
        have HV := Lib.hid hv
        clear hv
        go_enter Tryz.func71, Tryz.ntmps71
        go_wp2_with go_in
        all_goals (go_ret; exact ⟨retB HV.out.symm, Mk.of_below (by go_grown)⟩)
    · have dh1 : decide (a ≤ 7) = false := by simp; omega
      have hv : hopOk ⟨a, i, e, x, m⟩ = false := by simp only [hopOk, decide_eq_false_iff_not]; omega
      have HV := Lib.hid hv
      clear hv
      go_enter Tryz.func71, Tryz.ntmps71
      go_wp2_with go_in
      all_goals (go_ret; exact ⟨retB HV.out.symm, Mk.of_below (by go_grown)⟩)
  · have dl1 : a < 0 := by omega
    have hv : hopOk ⟨a, i, e, x, m⟩ = false := by simp only [hopOk, decide_eq_false_iff_not]; omega
    have HV := Lib.hid hv
    clear hv
    go_enter Tryz.func71, Tryz.ntmps71
    go_wp2_with go_in
    all_goals (go_ret; exact ⟨retB HV.out.symm, Mk.of_below (by go_grown)⟩)

set_option maxRecDepth 100000 in
set_option maxHeartbeats 8000000 in
theorem implVHop (a i e x m : Int) (w : World) : Calls Tryz.prog 77 #[.agg #[.int .i64 a, .int .i64 i, .int .i64 e, .int .i64 x, .int .i64 m]] w fun en w' => en = .returned (.bool (hopOk ⟨a, i, e, x, m⟩)) ∧ Mk0 w w' := by
  by_cases cl1 : 0 ≤ a
  · by_cases ch1 : a ≤ 7
    · have dh1 : decide (a ≤ 7) = true := by simp; omega
      by_cases cl2 : 0 ≤ i
      · by_cases ch2 : i ≤ 6
        · have dh2 : decide (i ≤ 6) = true := by simp; omega
          by_cases cl3 : 0 ≤ e
          · by_cases ch3 : e ≤ 6
            · have dh3 : decide (e ≤ 6) = true := by simp; omega
              by_cases hne : i = e
              · have n1 : (i != e) = false := by simpa using hne
                have hv : hopOk ⟨a, i, e, x, m⟩ = false := by simp only [hopOk, decide_eq_false_iff_not]; omega
                have HV := Lib.hid hv
                clear hv hne
                go_enter Tryz.func77, Tryz.ntmps77
                go_wp2_with go_in
                all_goals (go_ret; exact ⟨retB HV.out.symm, Mk.of_below (by go_grown)⟩)
              · have n1 : (i != e) = true := by simpa using hne
                by_cases cl4 : 0 ≤ x
                · by_cases ch4 : x ≤ 1000000
                  · have dh4 : decide (x ≤ 1000000) = true := by simp; omega
                    by_cases cl5 : 0 ≤ m
                    · by_cases ch5 : m ≤ 2147483646
                      · have dh5 : decide (m ≤ 2147483646) = true := by simp; omega
                        have hv : hopOk ⟨a, i, e, x, m⟩ = true := by simp only [hopOk, decide_eq_true_eq]; omega
                        have HV := Lib.hid hv
                        clear hv hne
                        go_enter Tryz.func77, Tryz.ntmps77
                        go_wp2_with go_in
                        all_goals (go_ret; exact ⟨retB HV.out.symm, Mk.of_below (by go_grown)⟩)
                      · have dh5 : decide (m ≤ 2147483646) = false := by simp; omega
                        have hv : hopOk ⟨a, i, e, x, m⟩ = false := by simp only [hopOk, decide_eq_false_iff_not]; omega
                        have HV := Lib.hid hv
                        clear hv hne
                        go_enter Tryz.func77, Tryz.ntmps77
                        go_wp2_with go_in
                        all_goals (go_ret; exact ⟨retB HV.out.symm, Mk.of_below (by go_grown)⟩)
                    · have dl5 : m < 0 := by omega
                      have hv : hopOk ⟨a, i, e, x, m⟩ = false := by simp only [hopOk, decide_eq_false_iff_not]; omega
                      have HV := Lib.hid hv
                      clear hv hne
                      go_enter Tryz.func77, Tryz.ntmps77
                      go_wp2_with go_in
                      all_goals (go_ret; exact ⟨retB HV.out.symm, Mk.of_below (by go_grown)⟩)
                  · have dh4 : decide (x ≤ 1000000) = false := by simp; omega
                    have hv : hopOk ⟨a, i, e, x, m⟩ = false := by simp only [hopOk, decide_eq_false_iff_not]; omega
                    have HV := Lib.hid hv
                    clear hv hne
                    go_enter Tryz.func77, Tryz.ntmps77
                    go_wp2_with go_in
                    all_goals (go_ret; exact ⟨retB HV.out.symm, Mk.of_below (by go_grown)⟩)
                · have dl4 : x < 0 := by omega
                  have hv : hopOk ⟨a, i, e, x, m⟩ = false := by simp only [hopOk, decide_eq_false_iff_not]; omega
                  have HV := Lib.hid hv
                  clear hv hne
                  go_enter Tryz.func77, Tryz.ntmps77
                  go_wp2_with go_in
                  all_goals (go_ret; exact ⟨retB HV.out.symm, Mk.of_below (by go_grown)⟩)
            · have dh3 : decide (e ≤ 6) = false := by simp; omega
              have hv : hopOk ⟨a, i, e, x, m⟩ = false := by simp only [hopOk, decide_eq_false_iff_not]; omega
              have HV := Lib.hid hv
              clear hv
              go_enter Tryz.func77, Tryz.ntmps77
              go_wp2_with go_in
              all_goals (go_ret; exact ⟨retB HV.out.symm, Mk.of_below (by go_grown)⟩)
          · have dl3 : e < 0 := by omega
            have hv : hopOk ⟨a, i, e, x, m⟩ = false := by simp only [hopOk, decide_eq_false_iff_not]; omega
            have HV := Lib.hid hv
            clear hv
            go_enter Tryz.func77, Tryz.ntmps77
            go_wp2_with go_in
            all_goals (go_ret; exact ⟨retB HV.out.symm, Mk.of_below (by go_grown)⟩)
        · have dh2 : decide (i ≤ 6) = false := by simp; omega
          have hv : hopOk ⟨a, i, e, x, m⟩ = false := by simp only [hopOk, decide_eq_false_iff_not]; omega
          have HV := Lib.hid hv
          clear hv
          go_enter Tryz.func77, Tryz.ntmps77
          go_wp2_with go_in
          all_goals (go_ret; exact ⟨retB HV.out.symm, Mk.of_below (by go_grown)⟩)
      · have dl2 : i < 0 := by omega
        have hv : hopOk ⟨a, i, e, x, m⟩ = false := by simp only [hopOk, decide_eq_false_iff_not]; omega
        have HV := Lib.hid hv
        clear hv
        go_enter Tryz.func77, Tryz.ntmps77
        go_wp2_with go_in
        all_goals (go_ret; exact ⟨retB HV.out.symm, Mk.of_below (by go_grown)⟩)
    · have dh1 : decide (a ≤ 7) = false := by simp; omega
      have hv : hopOk ⟨a, i, e, x, m⟩ = false := by simp only [hopOk, decide_eq_false_iff_not]; omega
      have HV := Lib.hid hv
      clear hv
      go_enter Tryz.func77, Tryz.ntmps77
      go_wp2_with go_in
      all_goals (go_ret; exact ⟨retB HV.out.symm, Mk.of_below (by go_grown)⟩)
  · have dl1 : a < 0 := by omega
    have hv : hopOk ⟨a, i, e, x, m⟩ = false := by simp only [hopOk, decide_eq_false_iff_not]; omega
    have HV := Lib.hid hv
    clear hv
    go_enter Tryz.func77, Tryz.ntmps77
    go_wp2_with go_in
    all_goals (go_ret; exact ⟨retB HV.out.symm, Mk.of_below (by go_grown)⟩)

end Go.Proofs.YtdhdkhnefnbdgaaGreatDoor
namespace Go.Proofs.YtdhdkhnefnbdgaaGreatDoor
open Go.ChangeShapes Go.WideShapes Go.ChangeAt Go.RowKit
set_option linter.unusedVariables false
def vhB (zs : List TAS) (n : Nat) (t b nd ing eg exp mac : Int) : Bool := hopOk ⟨nd, ing, eg, exp, mac⟩ && (decide (nd < n) && (mac == macV (zs.getD nd.toNat default).key (hopL t b nd ing eg exp)))
theorem key_fits {zs : List TAS} {n q : Nat} (hl : zs.length = n) (hq : q < n) (hz : ∀ y ∈ zs, TAS.fits y) {y : TAS} (hy : y = zs.getD q default) : (Lit.int .i64 y.key).wf = true := by
  subst hy
  have : zs.getD q default ∈ zs := by
    rw [List.getD_eq_getElem?_getD, List.getElem?_eq_getElem (by omega)]
    exact List.getElem_mem _
  exact (hz _ this).2

set_option maxRecDepth 100000 in
set_option maxHeartbeats 4000000 in
theorem specRealmIn (a0 a1 : Option Addr) (n0 c0 n1 c1 : Nat) (r : Int) (w : World) (hn : n0 ≤ 1048576) (h0 : 0 ≤ r) (h1 : r < (n0 : Int)) :
    Calls Tryz.prog 21 #[.agg #[.slice a0 n0 c0, .slice a1 n1 c1], .int .i64 r] w fun e w' => e = .returned (.bool true) ∧ Mk0 w w' := by
  have H0 := Lib.hid h0
  have H1 := Lib.hid h1
  go_enter Tryz.func21, Tryz.ntmps21
  go_wp2_with fail
  refine (specInYes _ _ _ _ H0.out (by have := H1.out; omega)).mono ?_
  rintro e w' ⟨rfl, rfl⟩
  go_wp2_with fail
  go_ret
  exact ⟨rfl, Mk.alloc _ _⟩

set_option maxRecDepth 100000 in
set_option maxHeartbeats 4000000 in
theorem specRealmOut (a0 a1 : Option Addr) (n0 c0 n1 c1 : Nat) (r : Int) (w : World) (hn : n0 ≤ 1048576) (h1 : r < 0 ∨ (n0 : Int) ≤ r) :
    Calls Tryz.prog 21 #[.agg #[.slice a0 n0 c0, .slice a1 n1 c1], .int .i64 r] w fun e w' => e = .returned (.bool false) ∧ Mk0 w w' := by
  have H1 := Lib.hid h1
  clear h1
  go_enter Tryz.func21, Tryz.ntmps21
  go_wp2_with fail
  refine (specInNo _ _ _ _ (by have := H1.out; omega)).mono ?_
  rintro e w' ⟨rfl, rfl⟩
  go_wp2_with fail
  go_ret
  exact ⟨rfl, Mk.alloc _ _⟩

theorem specVHop_true (a i e x m : Int) (w : World) (hk : hopOk ⟨a, i, e, x, m⟩ = true) : Calls Tryz.prog 71 #[.agg #[.int .i64 a, .int .i64 i, .int .i64 e, .int .i64 x, .int .i64 m]] w fun en w' => en = .returned (.bool true) ∧ Mk0 w w' :=
  hk ▸ specVHop a i e x m w

theorem specVHop_false (a i e x m : Int) (w : World) (hk : hopOk ⟨a, i, e, x, m⟩ = false) : Calls Tryz.prog 71 #[.agg #[.int .i64 a, .int .i64 i, .int .i64 e, .int .i64 x, .int .i64 m]] w fun en w' => en = .returned (.bool false) ∧ Mk0 w w' :=
  hk ▸ specVHop a i e x m w

set_option maxRecDepth 100000 in
set_option maxHeartbeats 4000000 in
theorem implRealmIn (a0 a1 : Option Addr) (n0 c0 n1 c1 : Nat) (r : Int) (w : World) (hn : n0 ≤ 1048576) (h0 : 0 ≤ r) (h1 : r < (n0 : Int)) :
    Calls Tryz.prog 30 #[.agg #[.slice a0 n0 c0, .slice a1 n1 c1], .int .i64 r] w fun e w' => e = .returned (.bool true) ∧ Mk0 w w' := by
  have H0 := Lib.hid h0
  have H1 := Lib.hid h1
  go_enter Tryz.func30, Tryz.ntmps30
  go_wp2_with fail
  refine (implInYes _ _ _ _ H0.out (by have := H1.out; omega)).mono ?_
  rintro e w' ⟨rfl, rfl⟩
  go_wp2_with fail
  go_ret
  exact ⟨rfl, Mk.alloc _ _⟩

set_option maxRecDepth 100000 in
set_option maxHeartbeats 4000000 in
theorem implRealmOut (a0 a1 : Option Addr) (n0 c0 n1 c1 : Nat) (r : Int) (w : World) (hn : n0 ≤ 1048576) (h1 : r < 0 ∨ (n0 : Int) ≤ r) :
    Calls Tryz.prog 30 #[.agg #[.slice a0 n0 c0, .slice a1 n1 c1], .int .i64 r] w fun e w' => e = .returned (.bool false) ∧ Mk0 w w' := by
  have H1 := Lib.hid h1
  clear h1
  go_enter Tryz.func30, Tryz.ntmps30
  go_wp2_with fail
  refine (implInNo _ _ _ _ (by have := H1.out; omega)).mono ?_
  rintro e w' ⟨rfl, rfl⟩
  go_wp2_with fail
  go_ret
  exact ⟨rfl, Mk.alloc _ _⟩

theorem implVHop_true (a i e x m : Int) (w : World) (hk : hopOk ⟨a, i, e, x, m⟩ = true) : Calls Tryz.prog 77 #[.agg #[.int .i64 a, .int .i64 i, .int .i64 e, .int .i64 x, .int .i64 m]] w fun en w' => en = .returned (.bool true) ∧ Mk0 w w' :=
  hk ▸ implVHop a i e x m w

theorem implVHop_false (a i e x m : Int) (w : World) (hk : hopOk ⟨a, i, e, x, m⟩ = false) : Calls Tryz.prog 77 #[.agg #[.int .i64 a, .int .i64 i, .int .i64 e, .int .i64 x, .int .i64 m]] w fun en w' => en = .returned (.bool false) ∧ Mk0 w w' :=
  hk ▸ implVHop a i e x m w

set_option maxRecDepth 100000 in
set_option maxHeartbeats 4000000 in
theorem specVerify (a0 a1 : Option Addr) (n0 c0 n1 c1 B : Nat) (zs : List TAS) (t b nd ing eg exp mac : Int) (w : World) (h : HasAS w B a0 n0 zs) (hB : B ≤ w.heap.size) (hn : n0 ≤ 1048576) (hz : ∀ y ∈ zs, TAS.fits y) (hf : ∀ z ∈ hopL t b nd ing eg exp, (Lit.int .i64 z).wf = true) :
    Calls Tryz.prog 72 #[.agg #[.slice a0 n0 c0, .slice a1 n1 c1], .int .i64 t, .int .i64 b, .agg #[.int .i64 nd, .int .i64 ing, .int .i64 eg, .int .i64 exp, .int .i64 mac]] w fun e w' => e = .returned (.bool (vhB zs n0 t b nd ing eg exp mac)) ∧ Mk0 w w' := by
  cases hk : hopOk ⟨nd, ing, eg, exp, mac⟩
  · have HR := Lib.hid (show vhB zs n0 t b nd ing eg exp mac = false by unfold vhB; rw [hk]; rfl)
    have HK := Lib.hid hk
    clear hk hf hz
    go_enter Tryz.func72, Tryz.ntmps72
    go_wp2_with fail
    refine wp_region_any (by kernel_rfl) ?_
    change wpAny _ _ _ _ _ _ _ (World.drew _)
    refine wpAny_ready (rs := [0]) (by kernel_rfl) (by simp) ?_
    refine AllReady.cons rfl (fun K hK => ?_) AllReady.nil
    go_simp
    refine hK _ _ ?_
    clear hK K
    try simp only [Act.put, List.getElem_toArray, List.getElem_cons_succ, List.getElem_cons_zero, List.setIfInBounds_toArray, List.set_cons_zero, List.set_cons_succ]
    refine wpAny_ready (rs := [1]) (by kernel_rfl) (by simp) ?_
    refine AllReady.cons rfl (fun K hK => ?_) AllReady.nil
    go_simp
    go_wp2_with (go_at_call 71; refine (specVHop_false _ _ _ _ _ _ HK.out).mono ?_; rintro e w2 ⟨rfl, m2⟩)
    try simp only [Act.put, List.getElem_toArray, List.getElem_cons_succ, List.getElem_cons_zero, List.setIfInBounds_toArray, List.set_cons_zero, List.set_cons_succ]
    first | (refine wpAny_take (i := 2) (v := undef) rfl (by kernel_rfl) (by kernel_rfl) (by kernel_rfl) (fun _ _ _ h => h) (Or.inr ⟨by rfl, rfl⟩) ?_) | (refine wpAny_take (i := 2) (v := _) rfl (by kernel_rfl) (by kernel_rfl) (by kernel_rfl) (fun _ _ _ h => h) (Or.inl ⟨by rfl, fun w => by go_simp; try with_reducible rfl⟩) ?_)
    try simp only [Act.put, List.getElem_toArray, List.getElem_cons_succ, List.getElem_cons_zero, List.setIfInBounds_toArray, List.set_cons_zero, List.set_cons_succ]
    first | (refine wpAny_take (i := 3) (v := undef) rfl (by kernel_rfl) (by kernel_rfl) (by kernel_rfl) (fun _ _ _ h => h) (Or.inr ⟨by rfl, rfl⟩) ?_) | (refine wpAny_take (i := 3) (v := _) rfl (by kernel_rfl) (by kernel_rfl) (by kernel_rfl) (fun _ _ _ h => h) (Or.inl ⟨by rfl, fun w => by go_simp; try with_reducible rfl⟩) ?_)
    try simp only [Act.put, List.getElem_toArray, List.getElem_cons_succ, List.getElem_cons_zero, List.setIfInBounds_toArray, List.set_cons_zero, List.set_cons_succ]
    first | (refine wpAny_take (i := 4) (v := undef) rfl (by kernel_rfl) (by kernel_rfl) (by kernel_rfl) (fun _ _ _ h => h) (Or.inr ⟨by rfl, rfl⟩) ?_) | (refine wpAny_take (i := 4) (v := _) rfl (by kernel_rfl) (by kernel_rfl) (by kernel_rfl) (fun _ _ _ h => h) (Or.inl ⟨by rfl, fun w => by go_simp; try with_reducible rfl⟩) ?_)
    try simp only [Act.put, List.getElem_toArray, List.getElem_cons_succ, List.getElem_cons_zero, List.setIfInBounds_toArray, List.set_cons_zero, List.set_cons_succ]
    first | (refine wpAny_take (i := 5) (v := undef) rfl (by kernel_rfl) (by kernel_rfl) (by kernel_rfl) (fun _ _ _ h => h) (Or.inr ⟨by rfl, rfl⟩) ?_) | (refine wpAny_take (i := 5) (v := _) rfl (by kernel_rfl) (by kernel_rfl) (by kernel_rfl) (fun _ _ _ h => h) (Or.inl ⟨by rfl, fun w => by go_simp; try with_reducible rfl⟩) ?_)
    try simp only [Act.put, List.getElem_toArray, List.getElem_cons_succ, List.getElem_cons_zero, List.setIfInBounds_toArray, List.set_cons_zero, List.set_cons_succ]
    first | (refine wpAny_take (i := 6) (v := undef) rfl (by kernel_rfl) (by kernel_rfl) (by kernel_rfl) (fun _ _ _ h => h) (Or.inr ⟨by rfl, rfl⟩) ?_) | (refine wpAny_take (i := 6) (v := _) rfl (by kernel_rfl) (by kernel_rfl) (by kernel_rfl) (fun _ _ _ h => h) (Or.inl ⟨by rfl, fun w => by go_simp; try with_reducible rfl⟩) ?_)
    try simp only [Act.put, List.getElem_toArray, List.getElem_cons_succ, List.getElem_cons_zero, List.setIfInBounds_toArray, List.set_cons_zero, List.set_cons_succ]
    first | (refine wpAny_take (i := 7) (v := undef) rfl (by kernel_rfl) (by kernel_rfl) (by kernel_rfl) (fun _ _ _ h => h) (Or.inr ⟨by rfl, rfl⟩) ?_) | (refine wpAny_take (i := 7) (v := _) rfl (by kernel_rfl) (by kernel_rfl) (by kernel_rfl) (fun _ _ _ h => h) (Or.inl ⟨by rfl, fun w => by go_simp; try with_reducible rfl⟩) ?_)
    try simp only [Act.put, List.getElem_toArray, List.getElem_cons_succ, List.getElem_cons_zero, List.setIfInBounds_toArray, List.set_cons_zero, List.set_cons_succ]
    first | (refine wpAny_take (i := 8) (v := undef) rfl (by kernel_rfl) (by kernel_rfl) (by kernel_rfl) (fun _ _ _ h => h) (Or.inr ⟨by rfl, rfl⟩) ?_) | (refine wpAny_take (i := 8) (v := _) rfl (by kernel_rfl) (by kernel_rfl) (by kernel_rfl) (fun _ _ _ h => h) (Or.inl ⟨by rfl, fun w => by go_simp; try with_reducible rfl⟩) ?_)
    try simp only [Act.put, List.getElem_toArray, List.getElem_cons_succ, List.getElem_cons_zero, List.setIfInBounds_toArray, List.set_cons_zero, List.set_cons_succ]
    first | (refine wpAny_take (i := 9) (v := undef) rfl (by kernel_rfl) (by kernel_rfl) (by kernel_rfl) (fun _ _ _ h => h) (Or.inr ⟨by rfl, rfl⟩) ?_) | (refine wpAny_take (i := 9) (v := _) rfl (by kernel_rfl) (by kernel_rfl) (by kernel_rfl) (fun _ _ _ h => h) (Or.inl ⟨by rfl, fun w => by go_simp; try with_reducible rfl⟩) ?_)
    try simp only [Act.put, List.getElem_toArray, List.getElem_cons_succ, List.getElem_cons_zero, List.setIfInBounds_toArray, List.set_cons_zero, List.set_cons_succ]
    first | (refine wpAny_take (i := 10) (v := undef) rfl (by kernel_rfl) (by kernel_rfl) (by kernel_rfl) (fun _ _ _ h => h) (Or.inr ⟨by rfl, rfl⟩) ?_) | (refine wpAny_take (i := 10) (v := _) rfl (by kernel_rfl) (by kernel_rfl) (by kernel_rfl) (fun _ _ _ h => h) (Or.inl ⟨by rfl, fun w => by go_simp; try with_reducible rfl⟩) ?_)
    try simp only [Act.put, List.getElem_toArray, List.getElem_cons_succ, List.getElem_cons_zero, List.setIfInBounds_toArray, List.set_cons_zero, List.set_cons_succ]
    first | (refine wpAny_take (i := 11) (v := undef) rfl (by kernel_rfl) (by kernel_rfl) (by kernel_rfl) (fun _ _ _ h => h) (Or.inr ⟨by rfl, rfl⟩) ?_) | (refine wpAny_take (i := 11) (v := _) rfl (by kernel_rfl) (by kernel_rfl) (by kernel_rfl) (fun _ _ _ h => h) (Or.inl ⟨by rfl, fun w => by go_simp; try with_reducible rfl⟩) ?_)
    try simp only [Act.put, List.getElem_toArray, List.getElem_cons_succ, List.getElem_cons_zero, List.setIfInBounds_toArray, List.set_cons_zero, List.set_cons_succ]
    first | (refine wpAny_take (i := 12) (v := undef) rfl (by kernel_rfl) (by kernel_rfl) (by kernel_rfl) (fun _ _ _ h => h) (Or.inr ⟨by rfl, rfl⟩) ?_) | (refine wpAny_take (i := 12) (v := _) rfl (by kernel_rfl) (by kernel_rfl) (by kernel_rfl) (fun _ _ _ h => h) (Or.inl ⟨by rfl, fun w => by go_simp; try with_reducible rfl⟩) ?_)
    try simp only [Act.put, List.getElem_toArray, List.getElem_cons_succ, List.getElem_cons_zero, List.setIfInBounds_toArray, List.set_cons_zero, List.set_cons_succ]
    first | (refine wpAny_take (i := 13) (v := undef) rfl (by kernel_rfl) (by kernel_rfl) (by kernel_rfl) (fun _ _ _ h => h) (Or.inr ⟨by rfl, rfl⟩) ?_) | (refine wpAny_take (i := 13) (v := _) rfl (by kernel_rfl) (by kernel_rfl) (by kernel_rfl) (fun _ _ _ h => h) (Or.inl ⟨by rfl, fun w => by go_simp; try with_reducible rfl⟩) ?_)
    try simp only [Act.put, List.getElem_toArray, List.getElem_cons_succ, List.getElem_cons_zero, List.setIfInBounds_toArray, List.set_cons_zero, List.set_cons_succ]
    first | (refine wpAny_take (i := 14) (v := undef) rfl (by kernel_rfl) (by kernel_rfl) (by kernel_rfl) (fun _ _ _ h => h) (Or.inr ⟨by rfl, rfl⟩) ?_) | (refine wpAny_take (i := 14) (v := _) rfl (by kernel_rfl) (by kernel_rfl) (by kernel_rfl) (fun _ _ _ h => h) (Or.inl ⟨by rfl, fun w => by go_simp; try with_reducible rfl⟩) ?_)
    try simp only [Act.put, List.getElem_toArray, List.getElem_cons_succ, List.getElem_cons_zero, List.setIfInBounds_toArray, List.set_cons_zero, List.set_cons_succ]
    first | (refine wpAny_take (i := 15) (v := undef) rfl (by kernel_rfl) (by kernel_rfl) (by kernel_rfl) (fun _ _ _ h => h) (Or.inr ⟨by rfl, rfl⟩) ?_) | (refine wpAny_take (i := 15) (v := _) rfl (by kernel_rfl) (by kernel_rfl) (by kernel_rfl) (fun _ _ _ h => h) (Or.inl ⟨by rfl, fun w => by go_simp; try with_reducible rfl⟩) ?_)
    try simp only [Act.put, List.getElem_toArray, List.getElem_cons_succ, List.getElem_cons_zero, List.setIfInBounds_toArray, List.set_cons_zero, List.set_cons_succ]
    first | (refine wpAny_take (i := 16) (v := undef) rfl (by kernel_rfl) (by kernel_rfl) (by kernel_rfl) (fun _ _ _ h => h) (Or.inr ⟨by rfl, rfl⟩) ?_) | (refine wpAny_take (i := 16) (v := _) rfl (by kernel_rfl) (by kernel_rfl) (by kernel_rfl) (fun _ _ _ h => h) (Or.inl ⟨by rfl, fun w => by go_simp; try with_reducible rfl⟩) ?_)
    try simp only [Act.put, List.getElem_toArray, List.getElem_cons_succ, List.getElem_cons_zero, List.setIfInBounds_toArray, List.set_cons_zero, List.set_cons_succ]
    first | (refine wpAny_take (i := 17) (v := undef) rfl (by kernel_rfl) (by kernel_rfl) (by kernel_rfl) (fun _ _ _ h => h) (Or.inr ⟨by rfl, rfl⟩) ?_) | (refine wpAny_take (i := 17) (v := _) rfl (by kernel_rfl) (by kernel_rfl) (by kernel_rfl) (fun _ _ _ h => h) (Or.inl ⟨by rfl, fun w => by go_simp; try with_reducible rfl⟩) ?_)
    try simp only [Act.put, List.getElem_toArray, List.getElem_cons_succ, List.getElem_cons_zero, List.setIfInBounds_toArray, List.set_cons_zero, List.set_cons_succ]
    first | (refine wpAny_take (i := 18) (v := undef) rfl (by kernel_rfl) (by kernel_rfl) (by kernel_rfl) (fun _ _ _ h => h) (Or.inr ⟨by rfl, rfl⟩) ?_) | (refine wpAny_take (i := 18) (v := _) rfl (by kernel_rfl) (by kernel_rfl) (by kernel_rfl) (fun _ _ _ h => h) (Or.inl ⟨by rfl, fun w => by go_simp; try with_reducible rfl⟩) ?_)
    try simp only [Act.put, List.getElem_toArray, List.getElem_cons_succ, List.getElem_cons_zero, List.setIfInBounds_toArray, List.set_cons_zero, List.set_cons_succ]
    first | (refine wpAny_take (i := 19) (v := undef) rfl (by kernel_rfl) (by kernel_rfl) (by kernel_rfl) (fun _ _ _ h => h) (Or.inr ⟨by rfl, rfl⟩) ?_) | (refine wpAny_take (i := 19) (v := _) rfl (by kernel_rfl) (by kernel_rfl) (by kernel_rfl) (fun _ _ _ h => h) (Or.inl ⟨by rfl, fun w => by go_simp; try with_reducible rfl⟩) ?_)
    try simp only [Act.put, List.getElem_toArray, List.getElem_cons_succ, List.getElem_cons_zero, List.setIfInBounds_toArray, List.set_cons_zero, List.set_cons_succ]
    first | (refine wpAny_take (i := 20) (v := undef) rfl (by kernel_rfl) (by kernel_rfl) (by kernel_rfl) (fun _ _ _ h => h) (Or.inr ⟨by rfl, rfl⟩) ?_) | (refine wpAny_take (i := 20) (v := _) rfl (by kernel_rfl) (by kernel_rfl) (by kernel_rfl) (fun _ _ _ h => h) (Or.inl ⟨by rfl, fun w => by go_simp; try with_reducible rfl⟩) ?_)
    try simp only [Act.put, List.getElem_toArray, List.getElem_cons_succ, List.getElem_cons_zero, List.setIfInBounds_toArray, List.set_cons_zero, List.set_cons_succ]
    first | (refine wpAny_take (i := 21) (v := undef) rfl (by kernel_rfl) (by kernel_rfl) (by kernel_rfl) (fun _ _ _ h => h) (Or.inr ⟨by rfl, rfl⟩) ?_) | (refine wpAny_take (i := 21) (v := _) rfl (by kernel_rfl) (by kernel_rfl) (by kernel_rfl) (fun _ _ _ h => h) (Or.inl ⟨by rfl, fun w => by go_simp; try with_reducible rfl⟩) ?_)
    try simp only [Act.put, List.getElem_toArray, List.getElem_cons_succ, List.getElem_cons_zero, List.setIfInBounds_toArray, List.set_cons_zero, List.set_cons_succ]
    first | (refine wpAny_take (i := 22) (v := undef) rfl (by kernel_rfl) (by kernel_rfl) (by kernel_rfl) (fun _ _ _ h => h) (Or.inr ⟨by rfl, rfl⟩) ?_) | (refine wpAny_take (i := 22) (v := _) rfl (by kernel_rfl) (by kernel_rfl) (by kernel_rfl) (fun _ _ _ h => h) (Or.inl ⟨by rfl, fun w => by go_simp; try with_reducible rfl⟩) ?_)
    try simp only [Act.put, List.getElem_toArray, List.getElem_cons_succ, List.getElem_cons_zero, List.setIfInBounds_toArray, List.set_cons_zero, List.set_cons_succ]
    first | (refine wpAny_take (i := 23) (v := undef) rfl (by kernel_rfl) (by kernel_rfl) (by kernel_rfl) (fun _ _ _ h => h) (Or.inr ⟨by rfl, rfl⟩) ?_) | (refine wpAny_take (i := 23) (v := _) rfl (by kernel_rfl) (by kernel_rfl) (by kernel_rfl) (fun _ _ _ h => h) (Or.inl ⟨by rfl, fun w => by go_simp; try with_reducible rfl⟩) ?_)
    try simp only [Act.put, List.getElem_toArray, List.getElem_cons_succ, List.getElem_cons_zero, List.setIfInBounds_toArray, List.set_cons_zero, List.set_cons_succ]
    first | (refine wpAny_take (i := 24) (v := undef) rfl (by kernel_rfl) (by kernel_rfl) (by kernel_rfl) (fun _ _ _ h => h) (Or.inr ⟨by rfl, rfl⟩) ?_) | (refine wpAny_take (i := 24) (v := _) rfl (by kernel_rfl) (by kernel_rfl) (by kernel_rfl) (fun _ _ _ h => h) (Or.inl ⟨by rfl, fun w => by go_simp; try with_reducible rfl⟩) ?_)
    try simp only [Act.put, List.getElem_toArray, List.getElem_cons_succ, List.getElem_cons_zero, List.setIfInBounds_toArray, List.set_cons_zero, List.set_cons_succ]
    refine wpAny_done (by kernel_rfl) ?_ _
    all_goals (
      have m3 : Mk0 ((w.alloc (Obj.cells #[Value.slice a0 n0 c0, Value.slice a1 n1 c1] 35)).alloc (Obj.cells #[Value.int .i64 nd, Value.int .i64 ing, Value.int .i64 eg, Value.int .i64 exp, Value.int .i64 mac] 61)) w2 := ⟨m2.os, m2.tape, m2.output, m2.size, m2.block⟩
      clear m2
      refine ‹∀ (a : Act) (w : World), _ → _› _ _ ?_
      go_wp2_with fail
      go_ret
      exact ⟨retB HR.out.symm, ((Mk.alloc _ _).new _).trans m3⟩)
  · have hnd : 0 ≤ nd := by
      have := hk
      simp only [hopOk, decide_eq_true_eq] at this
      exact this.1.1
    obtain ⟨q, rfl⟩ : ∃ q : Nat, nd = (q : Int) := ⟨nd.toNat, by omega⟩
    have HK := Lib.hid hk
    clear hnd
    by_cases hq : q < n0
    · obtain ⟨bA, oA, y, rfl, hb, hy, d0, d1, d2⟩ := HasAS.at _ _ _ _ _ _ h hq
      have hbw := Nat.lt_of_lt_of_le hb hB
      have HF := Lib.hid hf
      have hkey := key_fits h.1 hq hz hy.out
      have HR := Lib.hid (show vhB zs n0 t b q ing eg exp mac = (mac == macV y.key (hopL t b q ing eg exp)) by unfold vhB; rw [hk, decide_eq_true (by omega), show ((q : Nat) : Int).toNat = q by omega, ← hy.out]; rfl)
      clear hk hf hz
      have M0 := (Mk.alloc w (Obj.cells #[Value.slice (some ⟨bA, oA, none⟩) n0 c0, Value.slice a1 n1 c1] 35)).new (Obj.cells #[Value.int .i64 (q : Int), Value.int .i64 ing, Value.int .i64 eg, Value.int .i64 exp, Value.int .i64 mac] 61)
      have C0 : ((w.alloc (Obj.cells #[Value.slice (some ⟨bA, oA, none⟩) n0 c0, Value.slice a1 n1 c1] 35)).alloc (Obj.cells #[Value.int .i64 (q : Int), Value.int .i64 ing, Value.int .i64 eg, Value.int .i64 exp, Value.int .i64 mac] 61)).cell? ⟨w.heap.size, 0, none⟩ = some (.slice (some ⟨bA, oA, none⟩) n0 c0) := by simp [go_sem]
      have C1 : ((w.alloc (Obj.cells #[Value.slice (some ⟨bA, oA, none⟩) n0 c0, Value.slice a1 n1 c1] 35)).alloc (Obj.cells #[Value.int .i64 (q : Int), Value.int .i64 ing, Value.int .i64 eg, Value.int .i64 exp, Value.int .i64 mac] 61)).cell? ⟨w.heap.size, 1, none⟩ = some (.slice a1 n1 c1) := by simp [go_sem]
      have C2 : ((w.alloc (Obj.cells #[Value.slice (some ⟨bA, oA, none⟩) n0 c0, Value.slice a1 n1 c1] 35)).alloc (Obj.cells #[Value.int .i64 (q : Int), Value.int .i64 ing, Value.int .i64 eg, Value.int .i64 exp, Value.int .i64 mac] 61)).cell? ⟨w.heap.size + 1, 0, none⟩ = some (.int .i64 (q : Int)) := by simp [go_sem]
      have C3 : ((w.alloc (Obj.cells #[Value.slice (some ⟨bA, oA, none⟩) n0 c0, Value.slice a1 n1 c1] 35)).alloc (Obj.cells #[Value.int .i64 (q : Int), Value.int .i64 ing, Value.int .i64 eg, Value.int .i64 exp, Value.int .i64 mac] 61)).cell? ⟨w.heap.size + 1, 1, none⟩ = some (.int .i64 ing) := by simp [go_sem]
      have C4 : ((w.alloc (Obj.cells #[Value.slice (some ⟨bA, oA, none⟩) n0 c0, Value.slice a1 n1 c1] 35)).alloc (Obj.cells #[Value.int .i64 (q : Int), Value.int .i64 ing, Value.int .i64 eg, Value.int .i64 exp, Value.int .i64 mac] 61)).cell? ⟨w.heap.size + 1, 2, none⟩ = some (.int .i64 eg) := by simp [go_sem]
      have C5 : ((w.alloc (Obj.cells #[Value.slice (some ⟨bA, oA, none⟩) n0 c0, Value.slice a1 n1 c1] 35)).alloc (Obj.cells #[Value.int .i64 (q : Int), Value.int .i64 ing, Value.int .i64 eg, Value.int .i64 exp, Value.int .i64 mac] 61)).cell? ⟨w.heap.size + 1, 3, none⟩ = some (.int .i64 exp) := by simp [go_sem]
      have C6 : ((w.alloc (Obj.cells #[Value.slice (some ⟨bA, oA, none⟩) n0 c0, Value.slice a1 n1 c1] 35)).alloc (Obj.cells #[Value.int .i64 (q : Int), Value.int .i64 ing, Value.int .i64 eg, Value.int .i64 exp, Value.int .i64 mac] 61)).cell? ⟨w.heap.size + 1, 4, none⟩ = some (.int .i64 mac) := by simp [go_sem]
      have C7 : ((w.alloc (Obj.cells #[Value.slice (some ⟨bA, oA, none⟩) n0 c0, Value.slice a1 n1 c1] 35)).alloc (Obj.cells #[Value.int .i64 (q : Int), Value.int .i64 ing, Value.int .i64 eg, Value.int .i64 exp, Value.int .i64 mac] 61)).cell? ⟨bA, oA + q * 3 + 2, none⟩ = some (.int .i64 y.key) := M0.cellAt d2
      have hq0 : (0 : Int) ≤ (q : Int) := by omega
      have hq1 : (q : Int) < (n0 : Int) := by omega
      clear d0 d1 d2
      go_enter Tryz.func72, Tryz.ntmps72
      go_wp2_with fail
      go_region_held3 (fun w' => Mk0 ((w.alloc (Obj.cells #[Value.slice (some ⟨bA, oA, none⟩) n0 c0, Value.slice a1 n1 c1] 35)).alloc (Obj.cells #[Value.int .i64 (q : Int), Value.int .i64 ing, Value.int .i64 eg, Value.int .i64 exp, Value.int .i64 mac] 61)) w' ∧ w'.cell? ⟨w.heap.size, 0, none⟩ = some (.slice (some ⟨bA, oA, none⟩) n0 c0) ∧ w'.cell? ⟨w.heap.size, 1, none⟩ = some (.slice a1 n1 c1) ∧ w'.cell? ⟨w.heap.size + 1, 0, none⟩ = some (.int .i64 (q : Int)) ∧ w'.cell? ⟨w.heap.size + 1, 1, none⟩ = some (.int .i64 ing) ∧ w'.cell? ⟨w.heap.size + 1, 2, none⟩ = some (.int .i64 eg) ∧ w'.cell? ⟨w.heap.size + 1, 3, none⟩ = some (.int .i64 exp) ∧ w'.cell? ⟨w.heap.size + 1, 4, none⟩ = some (.int .i64 mac) ∧ w'.cell? ⟨bA, oA + q * 3 + 2, none⟩ = some (.int .i64 y.key)) (first | exact ⟨Mk.drew1 _, C0, C1, C2, C3, C4, C5, C6, C7⟩ | (obtain ⟨s0, s1, s2, s3, s4, s5, s6, s7, s8⟩ := ‹Mk0 ((w.alloc (Obj.cells #[Value.slice (some ⟨bA, oA, none⟩) n0 c0, Value.slice a1 n1 c1] 35)).alloc (Obj.cells #[Value.int .i64 (q : Int), Value.int .i64 ing, Value.int .i64 eg, Value.int .i64 exp, Value.int .i64 mac] 61)) _ ∧ _›; exact ⟨s0.trans mm, mm.cellAt s1, mm.cellAt s2, mm.cellAt s3, mm.cellAt s4, mm.cellAt s5, mm.cellAt s6, mm.cellAt s7, mm.cellAt s8⟩)) (first | (go_at_call 71; refine (specVHop_true _ _ _ _ _ _ HK.out).mono ?_; rintro e w2 ⟨rfl, mm⟩) | (go_at_call 21; refine (specRealmIn _ _ _ _ _ _ _ _ hn hq0 hq1).mono ?_; rintro e w2 ⟨rfl, mm⟩) | (go_at_call 90; refine (specHopMAC _ _ _ _ _ _ _ _ _ hkey HF.out).mono ?_; rintro e w2 ⟨rfl, bb⟩; have mm := Mk.of_below bb))
      have m6 := (‹Mk0 ((w.alloc (Obj.cells #[Value.slice (some ⟨bA, oA, none⟩) n0 c0, Value.slice a1 n1 c1] 35)).alloc (Obj.cells #[Value.int .i64 (q : Int), Value.int .i64 ing, Value.int .i64 eg, Value.int .i64 exp, Value.int .i64 mac] 61)) _ ∧ _›).1
      refine ‹∀ (a : Act) (w : World), _ → _› _ _ ?_
      go_wp2_with fail
      go_ret
      exact ⟨retB HR.out.symm, M0.trans m6⟩
    · have HR := Lib.hid (show vhB zs n0 t b q ing eg exp mac = false by unfold vhB; rw [decide_eq_false (by omega)]; simp)
      clear hk hf hz
      have hq2 : (q : Int) < 0 ∨ (n0 : Int) ≤ (q : Int) := by omega
      have HQ := Lib.hid hq2
      clear hq2
      go_enter Tryz.func72, Tryz.ntmps72
      go_wp2_with fail
      refine wp_region_any (by kernel_rfl) ?_
      change wpAny _ _ _ _ _ _ _ (World.drew _)
      refine wpAny_ready (rs := [0]) (by kernel_rfl) (by simp) ?_
      refine AllReady.cons rfl (fun K hK => ?_) AllReady.nil
      go_simp
      refine hK _ _ ?_
      clear hK K
      try simp only [Act.put, List.getElem_toArray, List.getElem_cons_succ, List.getElem_cons_zero, List.setIfInBounds_toArray, List.set_cons_zero, List.set_cons_succ]
      refine wpAny_ready (rs := [1]) (by kernel_rfl) (by simp) ?_
      refine AllReady.cons rfl (fun K hK => ?_) AllReady.nil
      go_simp
      go_wp2_with (go_at_call 71; refine (specVHop_true _ _ _ _ _ _ HK.out).mono ?_; rintro e w2 ⟨rfl, m2⟩; obtain ⟨q2, r2⟩ := m2.kept)
      try simp only [Act.put, List.getElem_toArray, List.getElem_cons_succ, List.getElem_cons_zero, List.setIfInBounds_toArray, List.set_cons_zero, List.set_cons_succ]
      first | (refine wpAny_take (i := 2) (v := undef) rfl (by kernel_rfl) (by kernel_rfl) (by kernel_rfl) (fun _ _ _ h => h) (Or.inr ⟨by rfl, rfl⟩) ?_) | (refine wpAny_take (i := 2) (v := _) rfl (by kernel_rfl) (by kernel_rfl) (by kernel_rfl) (fun _ _ _ h => h) (Or.inl ⟨by rfl, fun w => by go_simp; try with_reducible rfl⟩) ?_)
      try simp only [Act.put, List.getElem_toArray, List.getElem_cons_succ, List.getElem_cons_zero, List.setIfInBounds_toArray, List.set_cons_zero, List.set_cons_succ]
      first | (refine wpAny_take (i := 4) (v := undef) rfl (by kernel_rfl) (by kernel_rfl) (by kernel_rfl) (fun _ _ _ h => h) (Or.inr ⟨by rfl, rfl⟩) ?_) | (refine wpAny_take (i := 4) (v := _) rfl (by kernel_rfl) (by kernel_rfl) (by kernel_rfl) (fun _ _ _ h => h) (Or.inl ⟨by rfl, fun w => by go_simp; try with_reducible rfl⟩) ?_)
      try simp only [Act.put, List.getElem_toArray, List.getElem_cons_succ, List.getElem_cons_zero, List.setIfInBounds_toArray, List.set_cons_zero, List.set_cons_succ]
      refine wpAny_ready (rs := [3, 5]) (by kernel_rfl) (by simp) ?_
      refine AllReady.cons rfl (fun K hK => ?_) (AllReady.cons rfl (fun K hK => ?_) AllReady.nil)
      · go_simp
        refine hK _ _ ?_
        clear hK K
        try simp only [Act.put, List.getElem_toArray, List.getElem_cons_succ, List.getElem_cons_zero, List.setIfInBounds_toArray, List.set_cons_zero, List.set_cons_succ]
        refine wpAny_ready (rs := [5]) (by kernel_rfl) (by simp) ?_
        refine AllReady.cons rfl (fun K hK => ?_) AllReady.nil
        go_simp
        refine hK _ _ ?_
        clear hK K
        try simp only [Act.put, List.getElem_toArray, List.getElem_cons_succ, List.getElem_cons_zero, List.setIfInBounds_toArray, List.set_cons_zero, List.set_cons_succ]
        refine wpAny_ready (rs := [6]) (by kernel_rfl) (by simp) ?_
        refine AllReady.cons rfl (fun K hK => ?_) AllReady.nil
        go_simp
        go_wp2_with (go_at_call 21; refine (specRealmOut _ _ _ _ _ _ _ _ hn HQ.out).mono ?_; rintro e w3 ⟨rfl, m3⟩)
        try simp only [Act.put, List.getElem_toArray, List.getElem_cons_succ, List.getElem_cons_zero, List.setIfInBounds_toArray, List.set_cons_zero, List.set_cons_succ]
        first | (refine wpAny_take (i := 7) (v := undef) rfl (by kernel_rfl) (by kernel_rfl) (by kernel_rfl) (fun _ _ _ h => h) (Or.inr ⟨by rfl, rfl⟩) ?_) | (refine wpAny_take (i := 7) (v := _) rfl (by kernel_rfl) (by kernel_rfl) (by kernel_rfl) (fun _ _ _ h => h) (Or.inl ⟨by rfl, fun w => by go_simp; try with_reducible rfl⟩) ?_)
        try simp only [Act.put, List.getElem_toArray, List.getElem_cons_succ, List.getElem_cons_zero, List.setIfInBounds_toArray, List.set_cons_zero, List.set_cons_succ]
        first | (refine wpAny_take (i := 8) (v := undef) rfl (by kernel_rfl) (by kernel_rfl) (by kernel_rfl) (fun _ _ _ h => h) (Or.inr ⟨by rfl, rfl⟩) ?_) | (refine wpAny_take (i := 8) (v := _) rfl (by kernel_rfl) (by kernel_rfl) (by kernel_rfl) (fun _ _ _ h => h) (Or.inl ⟨by rfl, fun w => by go_simp; try with_reducible rfl⟩) ?_)
        try simp only [Act.put, List.getElem_toArray, List.getElem_cons_succ, List.getElem_cons_zero, List.setIfInBounds_toArray, List.set_cons_zero, List.set_cons_succ]
        first | (refine wpAny_take (i := 9) (v := undef) rfl (by kernel_rfl) (by kernel_rfl) (by kernel_rfl) (fun _ _ _ h => h) (Or.inr ⟨by rfl, rfl⟩) ?_) | (refine wpAny_take (i := 9) (v := _) rfl (by kernel_rfl) (by kernel_rfl) (by kernel_rfl) (fun _ _ _ h => h) (Or.inl ⟨by rfl, fun w => by go_simp; try with_reducible rfl⟩) ?_)
        try simp only [Act.put, List.getElem_toArray, List.getElem_cons_succ, List.getElem_cons_zero, List.setIfInBounds_toArray, List.set_cons_zero, List.set_cons_succ]
        first | (refine wpAny_take (i := 10) (v := undef) rfl (by kernel_rfl) (by kernel_rfl) (by kernel_rfl) (fun _ _ _ h => h) (Or.inr ⟨by rfl, rfl⟩) ?_) | (refine wpAny_take (i := 10) (v := _) rfl (by kernel_rfl) (by kernel_rfl) (by kernel_rfl) (fun _ _ _ h => h) (Or.inl ⟨by rfl, fun w => by go_simp; try with_reducible rfl⟩) ?_)
        try simp only [Act.put, List.getElem_toArray, List.getElem_cons_succ, List.getElem_cons_zero, List.setIfInBounds_toArray, List.set_cons_zero, List.set_cons_succ]
        first | (refine wpAny_take (i := 11) (v := undef) rfl (by kernel_rfl) (by kernel_rfl) (by kernel_rfl) (fun _ _ _ h => h) (Or.inr ⟨by rfl, rfl⟩) ?_) | (refine wpAny_take (i := 11) (v := _) rfl (by kernel_rfl) (by kernel_rfl) (by kernel_rfl) (fun _ _ _ h => h) (Or.inl ⟨by rfl, fun w => by go_simp; try with_reducible rfl⟩) ?_)
        try simp only [Act.put, List.getElem_toArray, List.getElem_cons_succ, List.getElem_cons_zero, List.setIfInBounds_toArray, List.set_cons_zero, List.set_cons_succ]
        first | (refine wpAny_take (i := 12) (v := undef) rfl (by kernel_rfl) (by kernel_rfl) (by kernel_rfl) (fun _ _ _ h => h) (Or.inr ⟨by rfl, rfl⟩) ?_) | (refine wpAny_take (i := 12) (v := _) rfl (by kernel_rfl) (by kernel_rfl) (by kernel_rfl) (fun _ _ _ h => h) (Or.inl ⟨by rfl, fun w => by go_simp; try with_reducible rfl⟩) ?_)
        try simp only [Act.put, List.getElem_toArray, List.getElem_cons_succ, List.getElem_cons_zero, List.setIfInBounds_toArray, List.set_cons_zero, List.set_cons_succ]
        first | (refine wpAny_take (i := 13) (v := undef) rfl (by kernel_rfl) (by kernel_rfl) (by kernel_rfl) (fun _ _ _ h => h) (Or.inr ⟨by rfl, rfl⟩) ?_) | (refine wpAny_take (i := 13) (v := _) rfl (by kernel_rfl) (by kernel_rfl) (by kernel_rfl) (fun _ _ _ h => h) (Or.inl ⟨by rfl, fun w => by go_simp; try with_reducible rfl⟩) ?_)
        try simp only [Act.put, List.getElem_toArray, List.getElem_cons_succ, List.getElem_cons_zero, List.setIfInBounds_toArray, List.set_cons_zero, List.set_cons_succ]
        first | (refine wpAny_take (i := 14) (v := undef) rfl (by kernel_rfl) (by kernel_rfl) (by kernel_rfl) (fun _ _ _ h => h) (Or.inr ⟨by rfl, rfl⟩) ?_) | (refine wpAny_take (i := 14) (v := _) rfl (by kernel_rfl) (by kernel_rfl) (by kernel_rfl) (fun _ _ _ h => h) (Or.inl ⟨by rfl, fun w => by go_simp; try with_reducible rfl⟩) ?_)
        try simp only [Act.put, List.getElem_toArray, List.getElem_cons_succ, List.getElem_cons_zero, List.setIfInBounds_toArray, List.set_cons_zero, List.set_cons_succ]
        first | (refine wpAny_take (i := 15) (v := undef) rfl (by kernel_rfl) (by kernel_rfl) (by kernel_rfl) (fun _ _ _ h => h) (Or.inr ⟨by rfl, rfl⟩) ?_) | (refine wpAny_take (i := 15) (v := _) rfl (by kernel_rfl) (by kernel_rfl) (by kernel_rfl) (fun _ _ _ h => h) (Or.inl ⟨by rfl, fun w => by go_simp; try with_reducible rfl⟩) ?_)
        try simp only [Act.put, List.getElem_toArray, List.getElem_cons_succ, List.getElem_cons_zero, List.setIfInBounds_toArray, List.set_cons_zero, List.set_cons_succ]
        first | (refine wpAny_take (i := 16) (v := undef) rfl (by kernel_rfl) (by kernel_rfl) (by kernel_rfl) (fun _ _ _ h => h) (Or.inr ⟨by rfl, rfl⟩) ?_) | (refine wpAny_take (i := 16) (v := _) rfl (by kernel_rfl) (by kernel_rfl) (by kernel_rfl) (fun _ _ _ h => h) (Or.inl ⟨by rfl, fun w => by go_simp; try with_reducible rfl⟩) ?_)
        try simp only [Act.put, List.getElem_toArray, List.getElem_cons_succ, List.getElem_cons_zero, List.setIfInBounds_toArray, List.set_cons_zero, List.set_cons_succ]
        first | (refine wpAny_take (i := 17) (v := undef) rfl (by kernel_rfl) (by kernel_rfl) (by kernel_rfl) (fun _ _ _ h => h) (Or.inr ⟨by rfl, rfl⟩) ?_) | (refine wpAny_take (i := 17) (v := _) rfl (by kernel_rfl) (by kernel_rfl) (by kernel_rfl) (fun _ _ _ h => h) (Or.inl ⟨by rfl, fun w => by go_simp; try with_reducible rfl⟩) ?_)
        try simp only [Act.put, List.getElem_toArray, List.getElem_cons_succ, List.getElem_cons_zero, List.setIfInBounds_toArray, List.set_cons_zero, List.set_cons_succ]
        first | (refine wpAny_take (i := 18) (v := undef) rfl (by kernel_rfl) (by kernel_rfl) (by kernel_rfl) (fun _ _ _ h => h) (Or.inr ⟨by rfl, rfl⟩) ?_) | (refine wpAny_take (i := 18) (v := _) rfl (by kernel_rfl) (by kernel_rfl) (by kernel_rfl) (fun _ _ _ h => h) (Or.inl ⟨by rfl, fun w => by go_simp; try with_reducible rfl⟩) ?_)
        try simp only [Act.put, List.getElem_toArray, List.getElem_cons_succ, List.getElem_cons_zero, List.setIfInBounds_toArray, List.set_cons_zero, List.set_cons_succ]
        first | (refine wpAny_take (i := 19) (v := undef) rfl (by kernel_rfl) (by kernel_rfl) (by kernel_rfl) (fun _ _ _ h => h) (Or.inr ⟨by rfl, rfl⟩) ?_) | (refine wpAny_take (i := 19) (v := _) rfl (by kernel_rfl) (by kernel_rfl) (by kernel_rfl) (fun _ _ _ h => h) (Or.inl ⟨by rfl, fun w => by go_simp; try with_reducible rfl⟩) ?_)
        try simp only [Act.put, List.getElem_toArray, List.getElem_cons_succ, List.getElem_cons_zero, List.setIfInBounds_toArray, List.set_cons_zero, List.set_cons_succ]
        first | (refine wpAny_take (i := 20) (v := undef) rfl (by kernel_rfl) (by kernel_rfl) (by kernel_rfl) (fun _ _ _ h => h) (Or.inr ⟨by rfl, rfl⟩) ?_) | (refine wpAny_take (i := 20) (v := _) rfl (by kernel_rfl) (by kernel_rfl) (by kernel_rfl) (fun _ _ _ h => h) (Or.inl ⟨by rfl, fun w => by go_simp; try with_reducible rfl⟩) ?_)
        try simp only [Act.put, List.getElem_toArray, List.getElem_cons_succ, List.getElem_cons_zero, List.setIfInBounds_toArray, List.set_cons_zero, List.set_cons_succ]
        first | (refine wpAny_take (i := 21) (v := undef) rfl (by kernel_rfl) (by kernel_rfl) (by kernel_rfl) (fun _ _ _ h => h) (Or.inr ⟨by rfl, rfl⟩) ?_) | (refine wpAny_take (i := 21) (v := _) rfl (by kernel_rfl) (by kernel_rfl) (by kernel_rfl) (fun _ _ _ h => h) (Or.inl ⟨by rfl, fun w => by go_simp; try with_reducible rfl⟩) ?_)
        try simp only [Act.put, List.getElem_toArray, List.getElem_cons_succ, List.getElem_cons_zero, List.setIfInBounds_toArray, List.set_cons_zero, List.set_cons_succ]
        first | (refine wpAny_take (i := 22) (v := undef) rfl (by kernel_rfl) (by kernel_rfl) (by kernel_rfl) (fun _ _ _ h => h) (Or.inr ⟨by rfl, rfl⟩) ?_) | (refine wpAny_take (i := 22) (v := _) rfl (by kernel_rfl) (by kernel_rfl) (by kernel_rfl) (fun _ _ _ h => h) (Or.inl ⟨by rfl, fun w => by go_simp; try with_reducible rfl⟩) ?_)
        try simp only [Act.put, List.getElem_toArray, List.getElem_cons_succ, List.getElem_cons_zero, List.setIfInBounds_toArray, List.set_cons_zero, List.set_cons_succ]
        first | (refine wpAny_take (i := 23) (v := undef) rfl (by kernel_rfl) (by kernel_rfl) (by kernel_rfl) (fun _ _ _ h => h) (Or.inr ⟨by rfl, rfl⟩) ?_) | (refine wpAny_take (i := 23) (v := _) rfl (by kernel_rfl) (by kernel_rfl) (by kernel_rfl) (fun _ _ _ h => h) (Or.inl ⟨by rfl, fun w => by go_simp; try with_reducible rfl⟩) ?_)
        try simp only [Act.put, List.getElem_toArray, List.getElem_cons_succ, List.getElem_cons_zero, List.setIfInBounds_toArray, List.set_cons_zero, List.set_cons_succ]
        first | (refine wpAny_take (i := 24) (v := undef) rfl (by kernel_rfl) (by kernel_rfl) (by kernel_rfl) (fun _ _ _ h => h) (Or.inr ⟨by rfl, rfl⟩) ?_) | (refine wpAny_take (i := 24) (v := _) rfl (by kernel_rfl) (by kernel_rfl) (by kernel_rfl) (fun _ _ _ h => h) (Or.inl ⟨by rfl, fun w => by go_simp; try with_reducible rfl⟩) ?_)
        try simp only [Act.put, List.getElem_toArray, List.getElem_cons_succ, List.getElem_cons_zero, List.setIfInBounds_toArray, List.set_cons_zero, List.set_cons_succ]
        refine wpAny_done (by kernel_rfl) ?_ _
        have m4 : Mk0 ((w.alloc (Obj.cells #[Value.slice a0 n0 c0, Value.slice a1 n1 c1] 35)).alloc (Obj.cells #[Value.int .i64 (q : Int), Value.int .i64 ing, Value.int .i64 eg, Value.int .i64 exp, Value.int .i64 mac] 61)) w2 := ⟨m2.os, m2.tape, m2.output, m2.size, m2.block⟩
        have m5 : Mk0 w2 w3 := ⟨m3.os, m3.tape, m3.output, m3.size, m3.block⟩
        clear q2 r2 m2 m3
        refine ‹∀ (a : Act) (w : World), _ → _› _ _ ?_
        go_wp2_with fail
        go_ret
        exact ⟨retB HR.out.symm, ((Mk.alloc _ _).new _).trans (m4.trans m5)⟩
      · go_simp
        refine hK _ _ ?_
        clear hK K
        try simp only [Act.put, List.getElem_toArray, List.getElem_cons_succ, List.getElem_cons_zero, List.setIfInBounds_toArray, List.set_cons_zero, List.set_cons_succ]
        refine wpAny_ready (rs := [3]) (by kernel_rfl) (by simp) ?_
        refine AllReady.cons rfl (fun K hK => ?_) AllReady.nil
        go_simp
        refine hK _ _ ?_
        clear hK K
        try simp only [Act.put, List.getElem_toArray, List.getElem_cons_succ, List.getElem_cons_zero, List.setIfInBounds_toArray, List.set_cons_zero, List.set_cons_succ]
        refine wpAny_ready (rs := [6]) (by kernel_rfl) (by simp) ?_
        refine AllReady.cons rfl (fun K hK => ?_) AllReady.nil
        go_simp
        go_wp2_with (go_at_call 21; refine (specRealmOut _ _ _ _ _ _ _ _ hn HQ.out).mono ?_; rintro e w3 ⟨rfl, m3⟩)
        try simp only [Act.put, List.getElem_toArray, List.getElem_cons_succ, List.getElem_cons_zero, List.setIfInBounds_toArray, List.set_cons_zero, List.set_cons_succ]
        first | (refine wpAny_take (i := 7) (v := undef) rfl (by kernel_rfl) (by kernel_rfl) (by kernel_rfl) (fun _ _ _ h => h) (Or.inr ⟨by rfl, rfl⟩) ?_) | (refine wpAny_take (i := 7) (v := _) rfl (by kernel_rfl) (by kernel_rfl) (by kernel_rfl) (fun _ _ _ h => h) (Or.inl ⟨by rfl, fun w => by go_simp; try with_reducible rfl⟩) ?_)
        try simp only [Act.put, List.getElem_toArray, List.getElem_cons_succ, List.getElem_cons_zero, List.setIfInBounds_toArray, List.set_cons_zero, List.set_cons_succ]
        first | (refine wpAny_take (i := 8) (v := undef) rfl (by kernel_rfl) (by kernel_rfl) (by kernel_rfl) (fun _ _ _ h => h) (Or.inr ⟨by rfl, rfl⟩) ?_) | (refine wpAny_take (i := 8) (v := _) rfl (by kernel_rfl) (by kernel_rfl) (by kernel_rfl) (fun _ _ _ h => h) (Or.inl ⟨by rfl, fun w => by go_simp; try with_reducible rfl⟩) ?_)
        try simp only [Act.put, List.getElem_toArray, List.getElem_cons_succ, List.getElem_cons_zero, List.setIfInBounds_toArray, List.set_cons_zero, List.set_cons_succ]
        first | (refine wpAny_take (i := 9) (v := undef) rfl (by kernel_rfl) (by kernel_rfl) (by kernel_rfl) (fun _ _ _ h => h) (Or.inr ⟨by rfl, rfl⟩) ?_) | (refine wpAny_take (i := 9) (v := _) rfl (by kernel_rfl) (by kernel_rfl) (by kernel_rfl) (fun _ _ _ h => h) (Or.inl ⟨by rfl, fun w => by go_simp; try with_reducible rfl⟩) ?_)
        try simp only [Act.put, List.getElem_toArray, List.getElem_cons_succ, List.getElem_cons_zero, List.setIfInBounds_toArray, List.set_cons_zero, List.set_cons_succ]
        first | (refine wpAny_take (i := 10) (v := undef) rfl (by kernel_rfl) (by kernel_rfl) (by kernel_rfl) (fun _ _ _ h => h) (Or.inr ⟨by rfl, rfl⟩) ?_) | (refine wpAny_take (i := 10) (v := _) rfl (by kernel_rfl) (by kernel_rfl) (by kernel_rfl) (fun _ _ _ h => h) (Or.inl ⟨by rfl, fun w => by go_simp; try with_reducible rfl⟩) ?_)
        try simp only [Act.put, List.getElem_toArray, List.getElem_cons_succ, List.getElem_cons_zero, List.setIfInBounds_toArray, List.set_cons_zero, List.set_cons_succ]
        first | (refine wpAny_take (i := 11) (v := undef) rfl (by kernel_rfl) (by kernel_rfl) (by kernel_rfl) (fun _ _ _ h => h) (Or.inr ⟨by rfl, rfl⟩) ?_) | (refine wpAny_take (i := 11) (v := _) rfl (by kernel_rfl) (by kernel_rfl) (by kernel_rfl) (fun _ _ _ h => h) (Or.inl ⟨by rfl, fun w => by go_simp; try with_reducible rfl⟩) ?_)
        try simp only [Act.put, List.getElem_toArray, List.getElem_cons_succ, List.getElem_cons_zero, List.setIfInBounds_toArray, List.set_cons_zero, List.set_cons_succ]
        first | (refine wpAny_take (i := 12) (v := undef) rfl (by kernel_rfl) (by kernel_rfl) (by kernel_rfl) (fun _ _ _ h => h) (Or.inr ⟨by rfl, rfl⟩) ?_) | (refine wpAny_take (i := 12) (v := _) rfl (by kernel_rfl) (by kernel_rfl) (by kernel_rfl) (fun _ _ _ h => h) (Or.inl ⟨by rfl, fun w => by go_simp; try with_reducible rfl⟩) ?_)
        try simp only [Act.put, List.getElem_toArray, List.getElem_cons_succ, List.getElem_cons_zero, List.setIfInBounds_toArray, List.set_cons_zero, List.set_cons_succ]
        first | (refine wpAny_take (i := 13) (v := undef) rfl (by kernel_rfl) (by kernel_rfl) (by kernel_rfl) (fun _ _ _ h => h) (Or.inr ⟨by rfl, rfl⟩) ?_) | (refine wpAny_take (i := 13) (v := _) rfl (by kernel_rfl) (by kernel_rfl) (by kernel_rfl) (fun _ _ _ h => h) (Or.inl ⟨by rfl, fun w => by go_simp; try with_reducible rfl⟩) ?_)
        try simp only [Act.put, List.getElem_toArray, List.getElem_cons_succ, List.getElem_cons_zero, List.setIfInBounds_toArray, List.set_cons_zero, List.set_cons_succ]
        first | (refine wpAny_take (i := 14) (v := undef) rfl (by kernel_rfl) (by kernel_rfl) (by kernel_rfl) (fun _ _ _ h => h) (Or.inr ⟨by rfl, rfl⟩) ?_) | (refine wpAny_take (i := 14) (v := _) rfl (by kernel_rfl) (by kernel_rfl) (by kernel_rfl) (fun _ _ _ h => h) (Or.inl ⟨by rfl, fun w => by go_simp; try with_reducible rfl⟩) ?_)
        try simp only [Act.put, List.getElem_toArray, List.getElem_cons_succ, List.getElem_cons_zero, List.setIfInBounds_toArray, List.set_cons_zero, List.set_cons_succ]
        first | (refine wpAny_take (i := 15) (v := undef) rfl (by kernel_rfl) (by kernel_rfl) (by kernel_rfl) (fun _ _ _ h => h) (Or.inr ⟨by rfl, rfl⟩) ?_) | (refine wpAny_take (i := 15) (v := _) rfl (by kernel_rfl) (by kernel_rfl) (by kernel_rfl) (fun _ _ _ h => h) (Or.inl ⟨by rfl, fun w => by go_simp; try with_reducible rfl⟩) ?_)
        try simp only [Act.put, List.getElem_toArray, List.getElem_cons_succ, List.getElem_cons_zero, List.setIfInBounds_toArray, List.set_cons_zero, List.set_cons_succ]
        first | (refine wpAny_take (i := 16) (v := undef) rfl (by kernel_rfl) (by kernel_rfl) (by kernel_rfl) (fun _ _ _ h => h) (Or.inr ⟨by rfl, rfl⟩) ?_) | (refine wpAny_take (i := 16) (v := _) rfl (by kernel_rfl) (by kernel_rfl) (by kernel_rfl) (fun _ _ _ h => h) (Or.inl ⟨by rfl, fun w => by go_simp; try with_reducible rfl⟩) ?_)
        try simp only [Act.put, List.getElem_toArray, List.getElem_cons_succ, List.getElem_cons_zero, List.setIfInBounds_toArray, List.set_cons_zero, List.set_cons_succ]
        first | (refine wpAny_take (i := 17) (v := undef) rfl (by kernel_rfl) (by kernel_rfl) (by kernel_rfl) (fun _ _ _ h => h) (Or.inr ⟨by rfl, rfl⟩) ?_) | (refine wpAny_take (i := 17) (v := _) rfl (by kernel_rfl) (by kernel_rfl) (by kernel_rfl) (fun _ _ _ h => h) (Or.inl ⟨by rfl, fun w => by go_simp; try with_reducible rfl⟩) ?_)
        try simp only [Act.put, List.getElem_toArray, List.getElem_cons_succ, List.getElem_cons_zero, List.setIfInBounds_toArray, List.set_cons_zero, List.set_cons_succ]
        first | (refine wpAny_take (i := 18) (v := undef) rfl (by kernel_rfl) (by kernel_rfl) (by kernel_rfl) (fun _ _ _ h => h) (Or.inr ⟨by rfl, rfl⟩) ?_) | (refine wpAny_take (i := 18) (v := _) rfl (by kernel_rfl) (by kernel_rfl) (by kernel_rfl) (fun _ _ _ h => h) (Or.inl ⟨by rfl, fun w => by go_simp; try with_reducible rfl⟩) ?_)
        try simp only [Act.put, List.getElem_toArray, List.getElem_cons_succ, List.getElem_cons_zero, List.setIfInBounds_toArray, List.set_cons_zero, List.set_cons_succ]
        first | (refine wpAny_take (i := 19) (v := undef) rfl (by kernel_rfl) (by kernel_rfl) (by kernel_rfl) (fun _ _ _ h => h) (Or.inr ⟨by rfl, rfl⟩) ?_) | (refine wpAny_take (i := 19) (v := _) rfl (by kernel_rfl) (by kernel_rfl) (by kernel_rfl) (fun _ _ _ h => h) (Or.inl ⟨by rfl, fun w => by go_simp; try with_reducible rfl⟩) ?_)
        try simp only [Act.put, List.getElem_toArray, List.getElem_cons_succ, List.getElem_cons_zero, List.setIfInBounds_toArray, List.set_cons_zero, List.set_cons_succ]
        first | (refine wpAny_take (i := 20) (v := undef) rfl (by kernel_rfl) (by kernel_rfl) (by kernel_rfl) (fun _ _ _ h => h) (Or.inr ⟨by rfl, rfl⟩) ?_) | (refine wpAny_take (i := 20) (v := _) rfl (by kernel_rfl) (by kernel_rfl) (by kernel_rfl) (fun _ _ _ h => h) (Or.inl ⟨by rfl, fun w => by go_simp; try with_reducible rfl⟩) ?_)
        try simp only [Act.put, List.getElem_toArray, List.getElem_cons_succ, List.getElem_cons_zero, List.setIfInBounds_toArray, List.set_cons_zero, List.set_cons_succ]
        first | (refine wpAny_take (i := 21) (v := undef) rfl (by kernel_rfl) (by kernel_rfl) (by kernel_rfl) (fun _ _ _ h => h) (Or.inr ⟨by rfl, rfl⟩) ?_) | (refine wpAny_take (i := 21) (v := _) rfl (by kernel_rfl) (by kernel_rfl) (by kernel_rfl) (fun _ _ _ h => h) (Or.inl ⟨by rfl, fun w => by go_simp; try with_reducible rfl⟩) ?_)
        try simp only [Act.put, List.getElem_toArray, List.getElem_cons_succ, List.getElem_cons_zero, List.setIfInBounds_toArray, List.set_cons_zero, List.set_cons_succ]
        first | (refine wpAny_take (i := 22) (v := undef) rfl (by kernel_rfl) (by kernel_rfl) (by kernel_rfl) (fun _ _ _ h => h) (Or.inr ⟨by rfl, rfl⟩) ?_) | (refine wpAny_take (i := 22) (v := _) rfl (by kernel_rfl) (by kernel_rfl) (by kernel_rfl) (fun _ _ _ h => h) (Or.inl ⟨by rfl, fun w => by go_simp; try with_reducible rfl⟩) ?_)
        try simp only [Act.put, List.getElem_toArray, List.getElem_cons_succ, List.getElem_cons_zero, List.setIfInBounds_toArray, List.set_cons_zero, List.set_cons_succ]
        first | (refine wpAny_take (i := 23) (v := undef) rfl (by kernel_rfl) (by kernel_rfl) (by kernel_rfl) (fun _ _ _ h => h) (Or.inr ⟨by rfl, rfl⟩) ?_) | (refine wpAny_take (i := 23) (v := _) rfl (by kernel_rfl) (by kernel_rfl) (by kernel_rfl) (fun _ _ _ h => h) (Or.inl ⟨by rfl, fun w => by go_simp; try with_reducible rfl⟩) ?_)
        try simp only [Act.put, List.getElem_toArray, List.getElem_cons_succ, List.getElem_cons_zero, List.setIfInBounds_toArray, List.set_cons_zero, List.set_cons_succ]
        first | (refine wpAny_take (i := 24) (v := undef) rfl (by kernel_rfl) (by kernel_rfl) (by kernel_rfl) (fun _ _ _ h => h) (Or.inr ⟨by rfl, rfl⟩) ?_) | (refine wpAny_take (i := 24) (v := _) rfl (by kernel_rfl) (by kernel_rfl) (by kernel_rfl) (fun _ _ _ h => h) (Or.inl ⟨by rfl, fun w => by go_simp; try with_reducible rfl⟩) ?_)
        try simp only [Act.put, List.getElem_toArray, List.getElem_cons_succ, List.getElem_cons_zero, List.setIfInBounds_toArray, List.set_cons_zero, List.set_cons_succ]
        refine wpAny_done (by kernel_rfl) ?_ _
        have m4 : Mk0 ((w.alloc (Obj.cells #[Value.slice a0 n0 c0, Value.slice a1 n1 c1] 35)).alloc (Obj.cells #[Value.int .i64 (q : Int), Value.int .i64 ing, Value.int .i64 eg, Value.int .i64 exp, Value.int .i64 mac] 61)) w2 := ⟨m2.os, m2.tape, m2.output, m2.size, m2.block⟩
        have m5 : Mk0 w2 w3 := ⟨m3.os, m3.tape, m3.output, m3.size, m3.block⟩
        clear q2 r2 m2 m3
        refine ‹∀ (a : Act) (w : World), _ → _› _ _ ?_
        go_wp2_with fail
        go_ret
        exact ⟨retB HR.out.symm, ((Mk.alloc _ _).new _).trans (m4.trans m5)⟩

set_option maxRecDepth 100000 in
set_option maxHeartbeats 4000000 in
theorem implVerify (a0 a1 : Option Addr) (n0 c0 n1 c1 B : Nat) (zs : List TAS) (t b nd ing eg exp mac : Int) (w : World) (h : HasAS w B a0 n0 zs) (hB : B ≤ w.heap.size) (hn : n0 ≤ 1048576) (hz : ∀ y ∈ zs, TAS.fits y) (hf : ∀ z ∈ hopL t b nd ing eg exp, (Lit.int .i64 z).wf = true) :
    Calls Tryz.prog 108 #[.agg #[.slice a0 n0 c0, .slice a1 n1 c1], .int .i64 t, .int .i64 b, .agg #[.int .i64 nd, .int .i64 ing, .int .i64 eg, .int .i64 exp, .int .i64 mac]] w fun e w' => e = .returned (.bool (vhB zs n0 t b nd ing eg exp mac)) ∧ Mk0 w w' := by
  cases hk : hopOk ⟨nd, ing, eg, exp, mac⟩
  · have HR := Lib.hid (show vhB zs n0 t b nd ing eg exp mac = false by unfold vhB; rw [hk]; rfl)
    have HK := Lib.hid hk
    clear hk hf hz
    go_enter Tryz.func108, Tryz.ntmps108
    go_wp2_with fail
    refine wp_region_any (by kernel_rfl) ?_
    change wpAny _ _ _ _ _ _ _ (World.drew _)
    refine wpAny_ready (rs := [0]) (by kernel_rfl) (by simp) ?_
    refine AllReady.cons rfl (fun K hK => ?_) AllReady.nil
    go_simp
    refine hK _ _ ?_
    clear hK K
    try simp only [Act.put, List.getElem_toArray, List.getElem_cons_succ, List.getElem_cons_zero, List.setIfInBounds_toArray, List.set_cons_zero, List.set_cons_succ]
    refine wpAny_ready (rs := [1]) (by kernel_rfl) (by simp) ?_
    refine AllReady.cons rfl (fun K hK => ?_) AllReady.nil
    go_simp
    go_wp2_with (go_at_call 77; refine (implVHop_false _ _ _ _ _ _ HK.out).mono ?_; rintro e w2 ⟨rfl, m2⟩)
    try simp only [Act.put, List.getElem_toArray, List.getElem_cons_succ, List.getElem_cons_zero, List.setIfInBounds_toArray, List.set_cons_zero, List.set_cons_succ]
    first | (refine wpAny_take (i := 2) (v := undef) rfl (by kernel_rfl) (by kernel_rfl) (by kernel_rfl) (fun _ _ _ h => h) (Or.inr ⟨by rfl, rfl⟩) ?_) | (refine wpAny_take (i := 2) (v := _) rfl (by kernel_rfl) (by kernel_rfl) (by kernel_rfl) (fun _ _ _ h => h) (Or.inl ⟨by rfl, fun w => by go_simp; try with_reducible rfl⟩) ?_)
    try simp only [Act.put, List.getElem_toArray, List.getElem_cons_succ, List.getElem_cons_zero, List.setIfInBounds_toArray, List.set_cons_zero, List.set_cons_succ]
    first | (refine wpAny_take (i := 3) (v := undef) rfl (by kernel_rfl) (by kernel_rfl) (by kernel_rfl) (fun _ _ _ h => h) (Or.inr ⟨by rfl, rfl⟩) ?_) | (refine wpAny_take (i := 3) (v := _) rfl (by kernel_rfl) (by kernel_rfl) (by kernel_rfl) (fun _ _ _ h => h) (Or.inl ⟨by rfl, fun w => by go_simp; try with_reducible rfl⟩) ?_)
    try simp only [Act.put, List.getElem_toArray, List.getElem_cons_succ, List.getElem_cons_zero, List.setIfInBounds_toArray, List.set_cons_zero, List.set_cons_succ]
    first | (refine wpAny_take (i := 4) (v := undef) rfl (by kernel_rfl) (by kernel_rfl) (by kernel_rfl) (fun _ _ _ h => h) (Or.inr ⟨by rfl, rfl⟩) ?_) | (refine wpAny_take (i := 4) (v := _) rfl (by kernel_rfl) (by kernel_rfl) (by kernel_rfl) (fun _ _ _ h => h) (Or.inl ⟨by rfl, fun w => by go_simp; try with_reducible rfl⟩) ?_)
    try simp only [Act.put, List.getElem_toArray, List.getElem_cons_succ, List.getElem_cons_zero, List.setIfInBounds_toArray, List.set_cons_zero, List.set_cons_succ]
    first | (refine wpAny_take (i := 5) (v := undef) rfl (by kernel_rfl) (by kernel_rfl) (by kernel_rfl) (fun _ _ _ h => h) (Or.inr ⟨by rfl, rfl⟩) ?_) | (refine wpAny_take (i := 5) (v := _) rfl (by kernel_rfl) (by kernel_rfl) (by kernel_rfl) (fun _ _ _ h => h) (Or.inl ⟨by rfl, fun w => by go_simp; try with_reducible rfl⟩) ?_)
    try simp only [Act.put, List.getElem_toArray, List.getElem_cons_succ, List.getElem_cons_zero, List.setIfInBounds_toArray, List.set_cons_zero, List.set_cons_succ]
    first | (refine wpAny_take (i := 6) (v := undef) rfl (by kernel_rfl) (by kernel_rfl) (by kernel_rfl) (fun _ _ _ h => h) (Or.inr ⟨by rfl, rfl⟩) ?_) | (refine wpAny_take (i := 6) (v := _) rfl (by kernel_rfl) (by kernel_rfl) (by kernel_rfl) (fun _ _ _ h => h) (Or.inl ⟨by rfl, fun w => by go_simp; try with_reducible rfl⟩) ?_)
    try simp only [Act.put, List.getElem_toArray, List.getElem_cons_succ, List.getElem_cons_zero, List.setIfInBounds_toArray, List.set_cons_zero, List.set_cons_succ]
    first | (refine wpAny_take (i := 7) (v := undef) rfl (by kernel_rfl) (by kernel_rfl) (by kernel_rfl) (fun _ _ _ h => h) (Or.inr ⟨by rfl, rfl⟩) ?_) | (refine wpAny_take (i := 7) (v := _) rfl (by kernel_rfl) (by kernel_rfl) (by kernel_rfl) (fun _ _ _ h => h) (Or.inl ⟨by rfl, fun w => by go_simp; try with_reducible rfl⟩) ?_)
    try simp only [Act.put, List.getElem_toArray, List.getElem_cons_succ, List.getElem_cons_zero, List.setIfInBounds_toArray, List.set_cons_zero, List.set_cons_succ]
    first | (refine wpAny_take (i := 8) (v := undef) rfl (by kernel_rfl) (by kernel_rfl) (by kernel_rfl) (fun _ _ _ h => h) (Or.inr ⟨by rfl, rfl⟩) ?_) | (refine wpAny_take (i := 8) (v := _) rfl (by kernel_rfl) (by kernel_rfl) (by kernel_rfl) (fun _ _ _ h => h) (Or.inl ⟨by rfl, fun w => by go_simp; try with_reducible rfl⟩) ?_)
    try simp only [Act.put, List.getElem_toArray, List.getElem_cons_succ, List.getElem_cons_zero, List.setIfInBounds_toArray, List.set_cons_zero, List.set_cons_succ]
    first | (refine wpAny_take (i := 9) (v := undef) rfl (by kernel_rfl) (by kernel_rfl) (by kernel_rfl) (fun _ _ _ h => h) (Or.inr ⟨by rfl, rfl⟩) ?_) | (refine wpAny_take (i := 9) (v := _) rfl (by kernel_rfl) (by kernel_rfl) (by kernel_rfl) (fun _ _ _ h => h) (Or.inl ⟨by rfl, fun w => by go_simp; try with_reducible rfl⟩) ?_)
    try simp only [Act.put, List.getElem_toArray, List.getElem_cons_succ, List.getElem_cons_zero, List.setIfInBounds_toArray, List.set_cons_zero, List.set_cons_succ]
    first | (refine wpAny_take (i := 10) (v := undef) rfl (by kernel_rfl) (by kernel_rfl) (by kernel_rfl) (fun _ _ _ h => h) (Or.inr ⟨by rfl, rfl⟩) ?_) | (refine wpAny_take (i := 10) (v := _) rfl (by kernel_rfl) (by kernel_rfl) (by kernel_rfl) (fun _ _ _ h => h) (Or.inl ⟨by rfl, fun w => by go_simp; try with_reducible rfl⟩) ?_)
    try simp only [Act.put, List.getElem_toArray, List.getElem_cons_succ, List.getElem_cons_zero, List.setIfInBounds_toArray, List.set_cons_zero, List.set_cons_succ]
    first | (refine wpAny_take (i := 11) (v := undef) rfl (by kernel_rfl) (by kernel_rfl) (by kernel_rfl) (fun _ _ _ h => h) (Or.inr ⟨by rfl, rfl⟩) ?_) | (refine wpAny_take (i := 11) (v := _) rfl (by kernel_rfl) (by kernel_rfl) (by kernel_rfl) (fun _ _ _ h => h) (Or.inl ⟨by rfl, fun w => by go_simp; try with_reducible rfl⟩) ?_)
    try simp only [Act.put, List.getElem_toArray, List.getElem_cons_succ, List.getElem_cons_zero, List.setIfInBounds_toArray, List.set_cons_zero, List.set_cons_succ]
    first | (refine wpAny_take (i := 12) (v := undef) rfl (by kernel_rfl) (by kernel_rfl) (by kernel_rfl) (fun _ _ _ h => h) (Or.inr ⟨by rfl, rfl⟩) ?_) | (refine wpAny_take (i := 12) (v := _) rfl (by kernel_rfl) (by kernel_rfl) (by kernel_rfl) (fun _ _ _ h => h) (Or.inl ⟨by rfl, fun w => by go_simp; try with_reducible rfl⟩) ?_)
    try simp only [Act.put, List.getElem_toArray, List.getElem_cons_succ, List.getElem_cons_zero, List.setIfInBounds_toArray, List.set_cons_zero, List.set_cons_succ]
    first | (refine wpAny_take (i := 13) (v := undef) rfl (by kernel_rfl) (by kernel_rfl) (by kernel_rfl) (fun _ _ _ h => h) (Or.inr ⟨by rfl, rfl⟩) ?_) | (refine wpAny_take (i := 13) (v := _) rfl (by kernel_rfl) (by kernel_rfl) (by kernel_rfl) (fun _ _ _ h => h) (Or.inl ⟨by rfl, fun w => by go_simp; try with_reducible rfl⟩) ?_)
    try simp only [Act.put, List.getElem_toArray, List.getElem_cons_succ, List.getElem_cons_zero, List.setIfInBounds_toArray, List.set_cons_zero, List.set_cons_succ]
    first | (refine wpAny_take (i := 14) (v := undef) rfl (by kernel_rfl) (by kernel_rfl) (by kernel_rfl) (fun _ _ _ h => h) (Or.inr ⟨by rfl, rfl⟩) ?_) | (refine wpAny_take (i := 14) (v := _) rfl (by kernel_rfl) (by kernel_rfl) (by kernel_rfl) (fun _ _ _ h => h) (Or.inl ⟨by rfl, fun w => by go_simp; try with_reducible rfl⟩) ?_)
    try simp only [Act.put, List.getElem_toArray, List.getElem_cons_succ, List.getElem_cons_zero, List.setIfInBounds_toArray, List.set_cons_zero, List.set_cons_succ]
    first | (refine wpAny_take (i := 15) (v := undef) rfl (by kernel_rfl) (by kernel_rfl) (by kernel_rfl) (fun _ _ _ h => h) (Or.inr ⟨by rfl, rfl⟩) ?_) | (refine wpAny_take (i := 15) (v := _) rfl (by kernel_rfl) (by kernel_rfl) (by kernel_rfl) (fun _ _ _ h => h) (Or.inl ⟨by rfl, fun w => by go_simp; try with_reducible rfl⟩) ?_)
    try simp only [Act.put, List.getElem_toArray, List.getElem_cons_succ, List.getElem_cons_zero, List.setIfInBounds_toArray, List.set_cons_zero, List.set_cons_succ]
    first | (refine wpAny_take (i := 16) (v := undef) rfl (by kernel_rfl) (by kernel_rfl) (by kernel_rfl) (fun _ _ _ h => h) (Or.inr ⟨by rfl, rfl⟩) ?_) | (refine wpAny_take (i := 16) (v := _) rfl (by kernel_rfl) (by kernel_rfl) (by kernel_rfl) (fun _ _ _ h => h) (Or.inl ⟨by rfl, fun w => by go_simp; try with_reducible rfl⟩) ?_)
    try simp only [Act.put, List.getElem_toArray, List.getElem_cons_succ, List.getElem_cons_zero, List.setIfInBounds_toArray, List.set_cons_zero, List.set_cons_succ]
    first | (refine wpAny_take (i := 17) (v := undef) rfl (by kernel_rfl) (by kernel_rfl) (by kernel_rfl) (fun _ _ _ h => h) (Or.inr ⟨by rfl, rfl⟩) ?_) | (refine wpAny_take (i := 17) (v := _) rfl (by kernel_rfl) (by kernel_rfl) (by kernel_rfl) (fun _ _ _ h => h) (Or.inl ⟨by rfl, fun w => by go_simp; try with_reducible rfl⟩) ?_)
    try simp only [Act.put, List.getElem_toArray, List.getElem_cons_succ, List.getElem_cons_zero, List.setIfInBounds_toArray, List.set_cons_zero, List.set_cons_succ]
    first | (refine wpAny_take (i := 18) (v := undef) rfl (by kernel_rfl) (by kernel_rfl) (by kernel_rfl) (fun _ _ _ h => h) (Or.inr ⟨by rfl, rfl⟩) ?_) | (refine wpAny_take (i := 18) (v := _) rfl (by kernel_rfl) (by kernel_rfl) (by kernel_rfl) (fun _ _ _ h => h) (Or.inl ⟨by rfl, fun w => by go_simp; try with_reducible rfl⟩) ?_)
    try simp only [Act.put, List.getElem_toArray, List.getElem_cons_succ, List.getElem_cons_zero, List.setIfInBounds_toArray, List.set_cons_zero, List.set_cons_succ]
    first | (refine wpAny_take (i := 19) (v := undef) rfl (by kernel_rfl) (by kernel_rfl) (by kernel_rfl) (fun _ _ _ h => h) (Or.inr ⟨by rfl, rfl⟩) ?_) | (refine wpAny_take (i := 19) (v := _) rfl (by kernel_rfl) (by kernel_rfl) (by kernel_rfl) (fun _ _ _ h => h) (Or.inl ⟨by rfl, fun w => by go_simp; try with_reducible rfl⟩) ?_)
    try simp only [Act.put, List.getElem_toArray, List.getElem_cons_succ, List.getElem_cons_zero, List.setIfInBounds_toArray, List.set_cons_zero, List.set_cons_succ]
    first | (refine wpAny_take (i := 20) (v := undef) rfl (by kernel_rfl) (by kernel_rfl) (by kernel_rfl) (fun _ _ _ h => h) (Or.inr ⟨by rfl, rfl⟩) ?_) | (refine wpAny_take (i := 20) (v := _) rfl (by kernel_rfl) (by kernel_rfl) (by kernel_rfl) (fun _ _ _ h => h) (Or.inl ⟨by rfl, fun w => by go_simp; try with_reducible rfl⟩) ?_)
    try simp only [Act.put, List.getElem_toArray, List.getElem_cons_succ, List.getElem_cons_zero, List.setIfInBounds_toArray, List.set_cons_zero, List.set_cons_succ]
    first | (refine wpAny_take (i := 21) (v := undef) rfl (by kernel_rfl) (by kernel_rfl) (by kernel_rfl) (fun _ _ _ h => h) (Or.inr ⟨by rfl, rfl⟩) ?_) | (refine wpAny_take (i := 21) (v := _) rfl (by kernel_rfl) (by kernel_rfl) (by kernel_rfl) (fun _ _ _ h => h) (Or.inl ⟨by rfl, fun w => by go_simp; try with_reducible rfl⟩) ?_)
    try simp only [Act.put, List.getElem_toArray, List.getElem_cons_succ, List.getElem_cons_zero, List.setIfInBounds_toArray, List.set_cons_zero, List.set_cons_succ]
    first | (refine wpAny_take (i := 22) (v := undef) rfl (by kernel_rfl) (by kernel_rfl) (by kernel_rfl) (fun _ _ _ h => h) (Or.inr ⟨by rfl, rfl⟩) ?_) | (refine wpAny_take (i := 22) (v := _) rfl (by kernel_rfl) (by kernel_rfl) (by kernel_rfl) (fun _ _ _ h => h) (Or.inl ⟨by rfl, fun w => by go_simp; try with_reducible rfl⟩) ?_)
    try simp only [Act.put, List.getElem_toArray, List.getElem_cons_succ, List.getElem_cons_zero, List.setIfInBounds_toArray, List.set_cons_zero, List.set_cons_succ]
    first | (refine wpAny_take (i := 23) (v := undef) rfl (by kernel_rfl) (by kernel_rfl) (by kernel_rfl) (fun _ _ _ h => h) (Or.inr ⟨by rfl, rfl⟩) ?_) | (refine wpAny_take (i := 23) (v := _) rfl (by kernel_rfl) (by kernel_rfl) (by kernel_rfl) (fun _ _ _ h => h) (Or.inl ⟨by rfl, fun w => by go_simp; try with_reducible rfl⟩) ?_)
    try simp only [Act.put, List.getElem_toArray, List.getElem_cons_succ, List.getElem_cons_zero, List.setIfInBounds_toArray, List.set_cons_zero, List.set_cons_succ]
    first | (refine wpAny_take (i := 24) (v := undef) rfl (by kernel_rfl) (by kernel_rfl) (by kernel_rfl) (fun _ _ _ h => h) (Or.inr ⟨by rfl, rfl⟩) ?_) | (refine wpAny_take (i := 24) (v := _) rfl (by kernel_rfl) (by kernel_rfl) (by kernel_rfl) (fun _ _ _ h => h) (Or.inl ⟨by rfl, fun w => by go_simp; try with_reducible rfl⟩) ?_)
    try simp only [Act.put, List.getElem_toArray, List.getElem_cons_succ, List.getElem_cons_zero, List.setIfInBounds_toArray, List.set_cons_zero, List.set_cons_succ]
    refine wpAny_done (by kernel_rfl) ?_ _
    all_goals (
      have m3 : Mk0 ((w.alloc (Obj.cells #[Value.slice a0 n0 c0, Value.slice a1 n1 c1] 35)).alloc (Obj.cells #[Value.int .i64 nd, Value.int .i64 ing, Value.int .i64 eg, Value.int .i64 exp, Value.int .i64 mac] 61)) w2 := ⟨m2.os, m2.tape, m2.output, m2.size, m2.block⟩
      clear m2
      refine ‹∀ (a : Act) (w : World), _ → _› _ _ ?_
      go_wp2_with fail
      go_ret
      exact ⟨retB HR.out.symm, ((Mk.alloc _ _).new _).trans m3⟩)
  · have hnd : 0 ≤ nd := by
      have := hk
      simp only [hopOk, decide_eq_true_eq] at this
      exact this.1.1
    obtain ⟨q, rfl⟩ : ∃ q : Nat, nd = (q : Int) := ⟨nd.toNat, by omega⟩
    have HK := Lib.hid hk
    clear hnd
    by_cases hq : q < n0
    · obtain ⟨bA, oA, y, rfl, hb, hy, d0, d1, d2⟩ := HasAS.at _ _ _ _ _ _ h hq
      have hbw := Nat.lt_of_lt_of_le hb hB
      have HF := Lib.hid hf
      have hkey := key_fits h.1 hq hz hy.out
      have HR := Lib.hid (show vhB zs n0 t b q ing eg exp mac = (mac == macV y.key (hopL t b q ing eg exp)) by unfold vhB; rw [hk, decide_eq_true (by omega), show ((q : Nat) : Int).toNat = q by omega, ← hy.out]; rfl)
      clear hk hf hz
      have M0 := (Mk.alloc w (Obj.cells #[Value.slice (some ⟨bA, oA, none⟩) n0 c0, Value.slice a1 n1 c1] 35)).new (Obj.cells #[Value.int .i64 (q : Int), Value.int .i64 ing, Value.int .i64 eg, Value.int .i64 exp, Value.int .i64 mac] 61)
      have C0 : ((w.alloc (Obj.cells #[Value.slice (some ⟨bA, oA, none⟩) n0 c0, Value.slice a1 n1 c1] 35)).alloc (Obj.cells #[Value.int .i64 (q : Int), Value.int .i64 ing, Value.int .i64 eg, Value.int .i64 exp, Value.int .i64 mac] 61)).cell? ⟨w.heap.size, 0, none⟩ = some (.slice (some ⟨bA, oA, none⟩) n0 c0) := by simp [go_sem]
      have C1 : ((w.alloc (Obj.cells #[Value.slice (some ⟨bA, oA, none⟩) n0 c0, Value.slice a1 n1 c1] 35)).alloc (Obj.cells #[Value.int .i64 (q : Int), Value.int .i64 ing, Value.int .i64 eg, Value.int .i64 exp, Value.int .i64 mac] 61)).cell? ⟨w.heap.size, 1, none⟩ = some (.slice a1 n1 c1) := by simp [go_sem]
      have C2 : ((w.alloc (Obj.cells #[Value.slice (some ⟨bA, oA, none⟩) n0 c0, Value.slice a1 n1 c1] 35)).alloc (Obj.cells #[Value.int .i64 (q : Int), Value.int .i64 ing, Value.int .i64 eg, Value.int .i64 exp, Value.int .i64 mac] 61)).cell? ⟨w.heap.size + 1, 0, none⟩ = some (.int .i64 (q : Int)) := by simp [go_sem]
      have C3 : ((w.alloc (Obj.cells #[Value.slice (some ⟨bA, oA, none⟩) n0 c0, Value.slice a1 n1 c1] 35)).alloc (Obj.cells #[Value.int .i64 (q : Int), Value.int .i64 ing, Value.int .i64 eg, Value.int .i64 exp, Value.int .i64 mac] 61)).cell? ⟨w.heap.size + 1, 1, none⟩ = some (.int .i64 ing) := by simp [go_sem]
      have C4 : ((w.alloc (Obj.cells #[Value.slice (some ⟨bA, oA, none⟩) n0 c0, Value.slice a1 n1 c1] 35)).alloc (Obj.cells #[Value.int .i64 (q : Int), Value.int .i64 ing, Value.int .i64 eg, Value.int .i64 exp, Value.int .i64 mac] 61)).cell? ⟨w.heap.size + 1, 2, none⟩ = some (.int .i64 eg) := by simp [go_sem]
      have C5 : ((w.alloc (Obj.cells #[Value.slice (some ⟨bA, oA, none⟩) n0 c0, Value.slice a1 n1 c1] 35)).alloc (Obj.cells #[Value.int .i64 (q : Int), Value.int .i64 ing, Value.int .i64 eg, Value.int .i64 exp, Value.int .i64 mac] 61)).cell? ⟨w.heap.size + 1, 3, none⟩ = some (.int .i64 exp) := by simp [go_sem]
      have C6 : ((w.alloc (Obj.cells #[Value.slice (some ⟨bA, oA, none⟩) n0 c0, Value.slice a1 n1 c1] 35)).alloc (Obj.cells #[Value.int .i64 (q : Int), Value.int .i64 ing, Value.int .i64 eg, Value.int .i64 exp, Value.int .i64 mac] 61)).cell? ⟨w.heap.size + 1, 4, none⟩ = some (.int .i64 mac) := by simp [go_sem]
      have C7 : ((w.alloc (Obj.cells #[Value.slice (some ⟨bA, oA, none⟩) n0 c0, Value.slice a1 n1 c1] 35)).alloc (Obj.cells #[Value.int .i64 (q : Int), Value.int .i64 ing, Value.int .i64 eg, Value.int .i64 exp, Value.int .i64 mac] 61)).cell? ⟨bA, oA + q * 3 + 2, none⟩ = some (.int .i64 y.key) := M0.cellAt d2
      have hq0 : (0 : Int) ≤ (q : Int) := by omega
      have hq1 : (q : Int) < (n0 : Int) := by omega
      clear d0 d1 d2
      go_enter Tryz.func108, Tryz.ntmps108
      go_wp2_with fail
      go_region_held3 (fun w' => Mk0 ((w.alloc (Obj.cells #[Value.slice (some ⟨bA, oA, none⟩) n0 c0, Value.slice a1 n1 c1] 35)).alloc (Obj.cells #[Value.int .i64 (q : Int), Value.int .i64 ing, Value.int .i64 eg, Value.int .i64 exp, Value.int .i64 mac] 61)) w' ∧ w'.cell? ⟨w.heap.size, 0, none⟩ = some (.slice (some ⟨bA, oA, none⟩) n0 c0) ∧ w'.cell? ⟨w.heap.size, 1, none⟩ = some (.slice a1 n1 c1) ∧ w'.cell? ⟨w.heap.size + 1, 0, none⟩ = some (.int .i64 (q : Int)) ∧ w'.cell? ⟨w.heap.size + 1, 1, none⟩ = some (.int .i64 ing) ∧ w'.cell? ⟨w.heap.size + 1, 2, none⟩ = some (.int .i64 eg) ∧ w'.cell? ⟨w.heap.size + 1, 3, none⟩ = some (.int .i64 exp) ∧ w'.cell? ⟨w.heap.size + 1, 4, none⟩ = some (.int .i64 mac) ∧ w'.cell? ⟨bA, oA + q * 3 + 2, none⟩ = some (.int .i64 y.key)) (first | exact ⟨Mk.drew1 _, C0, C1, C2, C3, C4, C5, C6, C7⟩ | (obtain ⟨s0, s1, s2, s3, s4, s5, s6, s7, s8⟩ := ‹Mk0 ((w.alloc (Obj.cells #[Value.slice (some ⟨bA, oA, none⟩) n0 c0, Value.slice a1 n1 c1] 35)).alloc (Obj.cells #[Value.int .i64 (q : Int), Value.int .i64 ing, Value.int .i64 eg, Value.int .i64 exp, Value.int .i64 mac] 61)) _ ∧ _›; exact ⟨s0.trans mm, mm.cellAt s1, mm.cellAt s2, mm.cellAt s3, mm.cellAt s4, mm.cellAt s5, mm.cellAt s6, mm.cellAt s7, mm.cellAt s8⟩)) (first | (go_at_call 77; refine (implVHop_true _ _ _ _ _ _ HK.out).mono ?_; rintro e w2 ⟨rfl, mm⟩) | (go_at_call 30; refine (implRealmIn _ _ _ _ _ _ _ _ hn hq0 hq1).mono ?_; rintro e w2 ⟨rfl, mm⟩) | (go_at_call 111; refine (implHopMAC _ _ _ _ _ _ _ _ _ hkey HF.out).mono ?_; rintro e w2 ⟨rfl, bb⟩; have mm := Mk.of_below bb))
      have m6 := (‹Mk0 ((w.alloc (Obj.cells #[Value.slice (some ⟨bA, oA, none⟩) n0 c0, Value.slice a1 n1 c1] 35)).alloc (Obj.cells #[Value.int .i64 (q : Int), Value.int .i64 ing, Value.int .i64 eg, Value.int .i64 exp, Value.int .i64 mac] 61)) _ ∧ _›).1
      refine ‹∀ (a : Act) (w : World), _ → _› _ _ ?_
      go_wp2_with fail
      go_ret
      exact ⟨retB HR.out.symm, M0.trans m6⟩
    · have HR := Lib.hid (show vhB zs n0 t b q ing eg exp mac = false by unfold vhB; rw [decide_eq_false (by omega)]; simp)
      clear hk hf hz
      have hq2 : (q : Int) < 0 ∨ (n0 : Int) ≤ (q : Int) := by omega
      have HQ := Lib.hid hq2
      clear hq2
      go_enter Tryz.func108, Tryz.ntmps108
      go_wp2_with fail
      refine wp_region_any (by kernel_rfl) ?_
      change wpAny _ _ _ _ _ _ _ (World.drew _)
      refine wpAny_ready (rs := [0]) (by kernel_rfl) (by simp) ?_
      refine AllReady.cons rfl (fun K hK => ?_) AllReady.nil
      go_simp
      refine hK _ _ ?_
      clear hK K
      try simp only [Act.put, List.getElem_toArray, List.getElem_cons_succ, List.getElem_cons_zero, List.setIfInBounds_toArray, List.set_cons_zero, List.set_cons_succ]
      refine wpAny_ready (rs := [1]) (by kernel_rfl) (by simp) ?_
      refine AllReady.cons rfl (fun K hK => ?_) AllReady.nil
      go_simp
      go_wp2_with (go_at_call 77; refine (implVHop_true _ _ _ _ _ _ HK.out).mono ?_; rintro e w2 ⟨rfl, m2⟩; obtain ⟨q2, r2⟩ := m2.kept)
      try simp only [Act.put, List.getElem_toArray, List.getElem_cons_succ, List.getElem_cons_zero, List.setIfInBounds_toArray, List.set_cons_zero, List.set_cons_succ]
      first | (refine wpAny_take (i := 2) (v := undef) rfl (by kernel_rfl) (by kernel_rfl) (by kernel_rfl) (fun _ _ _ h => h) (Or.inr ⟨by rfl, rfl⟩) ?_) | (refine wpAny_take (i := 2) (v := _) rfl (by kernel_rfl) (by kernel_rfl) (by kernel_rfl) (fun _ _ _ h => h) (Or.inl ⟨by rfl, fun w => by go_simp; try with_reducible rfl⟩) ?_)
      try simp only [Act.put, List.getElem_toArray, List.getElem_cons_succ, List.getElem_cons_zero, List.setIfInBounds_toArray, List.set_cons_zero, List.set_cons_succ]
      first | (refine wpAny_take (i := 4) (v := undef) rfl (by kernel_rfl) (by kernel_rfl) (by kernel_rfl) (fun _ _ _ h => h) (Or.inr ⟨by rfl, rfl⟩) ?_) | (refine wpAny_take (i := 4) (v := _) rfl (by kernel_rfl) (by kernel_rfl) (by kernel_rfl) (fun _ _ _ h => h) (Or.inl ⟨by rfl, fun w => by go_simp; try with_reducible rfl⟩) ?_)
      try simp only [Act.put, List.getElem_toArray, List.getElem_cons_succ, List.getElem_cons_zero, List.setIfInBounds_toArray, List.set_cons_zero, List.set_cons_succ]
      refine wpAny_ready (rs := [3, 5]) (by kernel_rfl) (by simp) ?_
      refine AllReady.cons rfl (fun K hK => ?_) (AllReady.cons rfl (fun K hK => ?_) AllReady.nil)
      · go_simp
        refine hK _ _ ?_
        clear hK K
        try simp only [Act.put, List.getElem_toArray, List.getElem_cons_succ, List.getElem_cons_zero, List.setIfInBounds_toArray, List.set_cons_zero, List.set_cons_succ]
        refine wpAny_ready (rs := [5]) (by kernel_rfl) (by simp) ?_
        refine AllReady.cons rfl (fun K hK => ?_) AllReady.nil
        go_simp
        refine hK _ _ ?_
        clear hK K
        try simp only [Act.put, List.getElem_toArray, List.getElem_cons_succ, List.getElem_cons_zero, List.setIfInBounds_toArray, List.set_cons_zero, List.set_cons_succ]
        refine wpAny_ready (rs := [6]) (by kernel_rfl) (by simp) ?_
        refine AllReady.cons rfl (fun K hK => ?_) AllReady.nil
        go_simp
        go_wp2_with (go_at_call 30; refine (implRealmOut _ _ _ _ _ _ _ _ hn HQ.out).mono ?_; rintro e w3 ⟨rfl, m3⟩)
        try simp only [Act.put, List.getElem_toArray, List.getElem_cons_succ, List.getElem_cons_zero, List.setIfInBounds_toArray, List.set_cons_zero, List.set_cons_succ]
        first | (refine wpAny_take (i := 7) (v := undef) rfl (by kernel_rfl) (by kernel_rfl) (by kernel_rfl) (fun _ _ _ h => h) (Or.inr ⟨by rfl, rfl⟩) ?_) | (refine wpAny_take (i := 7) (v := _) rfl (by kernel_rfl) (by kernel_rfl) (by kernel_rfl) (fun _ _ _ h => h) (Or.inl ⟨by rfl, fun w => by go_simp; try with_reducible rfl⟩) ?_)
        try simp only [Act.put, List.getElem_toArray, List.getElem_cons_succ, List.getElem_cons_zero, List.setIfInBounds_toArray, List.set_cons_zero, List.set_cons_succ]
        first | (refine wpAny_take (i := 8) (v := undef) rfl (by kernel_rfl) (by kernel_rfl) (by kernel_rfl) (fun _ _ _ h => h) (Or.inr ⟨by rfl, rfl⟩) ?_) | (refine wpAny_take (i := 8) (v := _) rfl (by kernel_rfl) (by kernel_rfl) (by kernel_rfl) (fun _ _ _ h => h) (Or.inl ⟨by rfl, fun w => by go_simp; try with_reducible rfl⟩) ?_)
        try simp only [Act.put, List.getElem_toArray, List.getElem_cons_succ, List.getElem_cons_zero, List.setIfInBounds_toArray, List.set_cons_zero, List.set_cons_succ]
        first | (refine wpAny_take (i := 9) (v := undef) rfl (by kernel_rfl) (by kernel_rfl) (by kernel_rfl) (fun _ _ _ h => h) (Or.inr ⟨by rfl, rfl⟩) ?_) | (refine wpAny_take (i := 9) (v := _) rfl (by kernel_rfl) (by kernel_rfl) (by kernel_rfl) (fun _ _ _ h => h) (Or.inl ⟨by rfl, fun w => by go_simp; try with_reducible rfl⟩) ?_)
        try simp only [Act.put, List.getElem_toArray, List.getElem_cons_succ, List.getElem_cons_zero, List.setIfInBounds_toArray, List.set_cons_zero, List.set_cons_succ]
        first | (refine wpAny_take (i := 10) (v := undef) rfl (by kernel_rfl) (by kernel_rfl) (by kernel_rfl) (fun _ _ _ h => h) (Or.inr ⟨by rfl, rfl⟩) ?_) | (refine wpAny_take (i := 10) (v := _) rfl (by kernel_rfl) (by kernel_rfl) (by kernel_rfl) (fun _ _ _ h => h) (Or.inl ⟨by rfl, fun w => by go_simp; try with_reducible rfl⟩) ?_)
        try simp only [Act.put, List.getElem_toArray, List.getElem_cons_succ, List.getElem_cons_zero, List.setIfInBounds_toArray, List.set_cons_zero, List.set_cons_succ]
        first | (refine wpAny_take (i := 11) (v := undef) rfl (by kernel_rfl) (by kernel_rfl) (by kernel_rfl) (fun _ _ _ h => h) (Or.inr ⟨by rfl, rfl⟩) ?_) | (refine wpAny_take (i := 11) (v := _) rfl (by kernel_rfl) (by kernel_rfl) (by kernel_rfl) (fun _ _ _ h => h) (Or.inl ⟨by rfl, fun w => by go_simp; try with_reducible rfl⟩) ?_)
        try simp only [Act.put, List.getElem_toArray, List.getElem_cons_succ, List.getElem_cons_zero, List.setIfInBounds_toArray, List.set_cons_zero, List.set_cons_succ]
        first | (refine wpAny_take (i := 12) (v := undef) rfl (by kernel_rfl) (by kernel_rfl) (by kernel_rfl) (fun _ _ _ h => h) (Or.inr ⟨by rfl, rfl⟩) ?_) | (refine wpAny_take (i := 12) (v := _) rfl (by kernel_rfl) (by kernel_rfl) (by kernel_rfl) (fun _ _ _ h => h) (Or.inl ⟨by rfl, fun w => by go_simp; try with_reducible rfl⟩) ?_)
        try simp only [Act.put, List.getElem_toArray, List.getElem_cons_succ, List.getElem_cons_zero, List.setIfInBounds_toArray, List.set_cons_zero, List.set_cons_succ]
        first | (refine wpAny_take (i := 13) (v := undef) rfl (by kernel_rfl) (by kernel_rfl) (by kernel_rfl) (fun _ _ _ h => h) (Or.inr ⟨by rfl, rfl⟩) ?_) | (refine wpAny_take (i := 13) (v := _) rfl (by kernel_rfl) (by kernel_rfl) (by kernel_rfl) (fun _ _ _ h => h) (Or.inl ⟨by rfl, fun w => by go_simp; try with_reducible rfl⟩) ?_)
        try simp only [Act.put, List.getElem_toArray, List.getElem_cons_succ, List.getElem_cons_zero, List.setIfInBounds_toArray, List.set_cons_zero, List.set_cons_succ]
        first | (refine wpAny_take (i := 14) (v := undef) rfl (by kernel_rfl) (by kernel_rfl) (by kernel_rfl) (fun _ _ _ h => h) (Or.inr ⟨by rfl, rfl⟩) ?_) | (refine wpAny_take (i := 14) (v := _) rfl (by kernel_rfl) (by kernel_rfl) (by kernel_rfl) (fun _ _ _ h => h) (Or.inl ⟨by rfl, fun w => by go_simp; try with_reducible rfl⟩) ?_)
        try simp only [Act.put, List.getElem_toArray, List.getElem_cons_succ, List.getElem_cons_zero, List.setIfInBounds_toArray, List.set_cons_zero, List.set_cons_succ]
        first | (refine wpAny_take (i := 15) (v := undef) rfl (by kernel_rfl) (by kernel_rfl) (by kernel_rfl) (fun _ _ _ h => h) (Or.inr ⟨by rfl, rfl⟩) ?_) | (refine wpAny_take (i := 15) (v := _) rfl (by kernel_rfl) (by kernel_rfl) (by kernel_rfl) (fun _ _ _ h => h) (Or.inl ⟨by rfl, fun w => by go_simp; try with_reducible rfl⟩) ?_)
        try simp only [Act.put, List.getElem_toArray, List.getElem_cons_succ, List.getElem_cons_zero, List.setIfInBounds_toArray, List.set_cons_zero, List.set_cons_succ]
        first | (refine wpAny_take (i := 16) (v := undef) rfl (by kernel_rfl) (by kernel_rfl) (by kernel_rfl) (fun _ _ _ h => h) (Or.inr ⟨by rfl, rfl⟩) ?_) | (refine wpAny_take (i := 16) (v := _) rfl (by kernel_rfl) (by kernel_rfl) (by kernel_rfl) (fun _ _ _ h => h) (Or.inl ⟨by rfl, fun w => by go_simp; try with_reducible rfl⟩) ?_)
        try simp only [Act.put, List.getElem_toArray, List.getElem_cons_succ, List.getElem_cons_zero, List.setIfInBounds_toArray, List.set_cons_zero, List.set_cons_succ]
        first | (refine wpAny_take (i := 17) (v := undef) rfl (by kernel_rfl) (by kernel_rfl) (by kernel_rfl) (fun _ _ _ h => h) (Or.inr ⟨by rfl, rfl⟩) ?_) | (refine wpAny_take (i := 17) (v := _) rfl (by kernel_rfl) (by kernel_rfl) (by kernel_rfl) (fun _ _ _ h => h) (Or.inl ⟨by rfl, fun w => by go_simp; try with_reducible rfl⟩) ?_)
        try simp only [Act.put, List.getElem_toArray, List.getElem_cons_succ, List.getElem_cons_zero, List.setIfInBounds_toArray, List.set_cons_zero, List.set_cons_succ]
        first | (refine wpAny_take (i := 18) (v := undef) rfl (by kernel_rfl) (by kernel_rfl) (by kernel_rfl) (fun _ _ _ h => h) (Or.inr ⟨by rfl, rfl⟩) ?_) | (refine wpAny_take (i := 18) (v := _) rfl (by kernel_rfl) (by kernel_rfl) (by kernel_rfl) (fun _ _ _ h => h) (Or.inl ⟨by rfl, fun w => by go_simp; try with_reducible rfl⟩) ?_)
        try simp only [Act.put, List.getElem_toArray, List.getElem_cons_succ, List.getElem_cons_zero, List.setIfInBounds_toArray, List.set_cons_zero, List.set_cons_succ]
        first | (refine wpAny_take (i := 19) (v := undef) rfl (by kernel_rfl) (by kernel_rfl) (by kernel_rfl) (fun _ _ _ h => h) (Or.inr ⟨by rfl, rfl⟩) ?_) | (refine wpAny_take (i := 19) (v := _) rfl (by kernel_rfl) (by kernel_rfl) (by kernel_rfl) (fun _ _ _ h => h) (Or.inl ⟨by rfl, fun w => by go_simp; try with_reducible rfl⟩) ?_)
        try simp only [Act.put, List.getElem_toArray, List.getElem_cons_succ, List.getElem_cons_zero, List.setIfInBounds_toArray, List.set_cons_zero, List.set_cons_succ]
        first | (refine wpAny_take (i := 20) (v := undef) rfl (by kernel_rfl) (by kernel_rfl) (by kernel_rfl) (fun _ _ _ h => h) (Or.inr ⟨by rfl, rfl⟩) ?_) | (refine wpAny_take (i := 20) (v := _) rfl (by kernel_rfl) (by kernel_rfl) (by kernel_rfl) (fun _ _ _ h => h) (Or.inl ⟨by rfl, fun w => by go_simp; try with_reducible rfl⟩) ?_)
        try simp only [Act.put, List.getElem_toArray, List.getElem_cons_succ, List.getElem_cons_zero, List.setIfInBounds_toArray, List.set_cons_zero, List.set_cons_succ]
        first | (refine wpAny_take (i := 21) (v := undef) rfl (by kernel_rfl) (by kernel_rfl) (by kernel_rfl) (fun _ _ _ h => h) (Or.inr ⟨by rfl, rfl⟩) ?_) | (refine wpAny_take (i := 21) (v := _) rfl (by kernel_rfl) (by kernel_rfl) (by kernel_rfl) (fun _ _ _ h => h) (Or.inl ⟨by rfl, fun w => by go_simp; try with_reducible rfl⟩) ?_)
        try simp only [Act.put, List.getElem_toArray, List.getElem_cons_succ, List.getElem_cons_zero, List.setIfInBounds_toArray, List.set_cons_zero, List.set_cons_succ]
        first | (refine wpAny_take (i := 22) (v := undef) rfl (by kernel_rfl) (by kernel_rfl) (by kernel_rfl) (fun _ _ _ h => h) (Or.inr ⟨by rfl, rfl⟩) ?_) | (refine wpAny_take (i := 22) (v := _) rfl (by kernel_rfl) (by kernel_rfl) (by kernel_rfl) (fun _ _ _ h => h) (Or.inl ⟨by rfl, fun w => by go_simp; try with_reducible rfl⟩) ?_)
        try simp only [Act.put, List.getElem_toArray, List.getElem_cons_succ, List.getElem_cons_zero, List.setIfInBounds_toArray, List.set_cons_zero, List.set_cons_succ]
        first | (refine wpAny_take (i := 23) (v := undef) rfl (by kernel_rfl) (by kernel_rfl) (by kernel_rfl) (fun _ _ _ h => h) (Or.inr ⟨by rfl, rfl⟩) ?_) | (refine wpAny_take (i := 23) (v := _) rfl (by kernel_rfl) (by kernel_rfl) (by kernel_rfl) (fun _ _ _ h => h) (Or.inl ⟨by rfl, fun w => by go_simp; try with_reducible rfl⟩) ?_)
        try simp only [Act.put, List.getElem_toArray, List.getElem_cons_succ, List.getElem_cons_zero, List.setIfInBounds_toArray, List.set_cons_zero, List.set_cons_succ]
        first | (refine wpAny_take (i := 24) (v := undef) rfl (by kernel_rfl) (by kernel_rfl) (by kernel_rfl) (fun _ _ _ h => h) (Or.inr ⟨by rfl, rfl⟩) ?_) | (refine wpAny_take (i := 24) (v := _) rfl (by kernel_rfl) (by kernel_rfl) (by kernel_rfl) (fun _ _ _ h => h) (Or.inl ⟨by rfl, fun w => by go_simp; try with_reducible rfl⟩) ?_)
        try simp only [Act.put, List.getElem_toArray, List.getElem_cons_succ, List.getElem_cons_zero, List.setIfInBounds_toArray, List.set_cons_zero, List.set_cons_succ]
        refine wpAny_done (by kernel_rfl) ?_ _
        have m4 : Mk0 ((w.alloc (Obj.cells #[Value.slice a0 n0 c0, Value.slice a1 n1 c1] 35)).alloc (Obj.cells #[Value.int .i64 (q : Int), Value.int .i64 ing, Value.int .i64 eg, Value.int .i64 exp, Value.int .i64 mac] 61)) w2 := ⟨m2.os, m2.tape, m2.output, m2.size, m2.block⟩
        have m5 : Mk0 w2 w3 := ⟨m3.os, m3.tape, m3.output, m3.size, m3.block⟩
        clear q2 r2 m2 m3
        refine ‹∀ (a : Act) (w : World), _ → _› _ _ ?_
        go_wp2_with fail
        go_ret
        exact ⟨retB HR.out.symm, ((Mk.alloc _ _).new _).trans (m4.trans m5)⟩
      · go_simp
        refine hK _ _ ?_
        clear hK K
        try simp only [Act.put, List.getElem_toArray, List.getElem_cons_succ, List.getElem_cons_zero, List.setIfInBounds_toArray, List.set_cons_zero, List.set_cons_succ]
        refine wpAny_ready (rs := [3]) (by kernel_rfl) (by simp) ?_
        refine AllReady.cons rfl (fun K hK => ?_) AllReady.nil
        go_simp
        refine hK _ _ ?_
        clear hK K
        try simp only [Act.put, List.getElem_toArray, List.getElem_cons_succ, List.getElem_cons_zero, List.setIfInBounds_toArray, List.set_cons_zero, List.set_cons_succ]
        refine wpAny_ready (rs := [6]) (by kernel_rfl) (by simp) ?_
        refine AllReady.cons rfl (fun K hK => ?_) AllReady.nil
        go_simp
        go_wp2_with (go_at_call 30; refine (implRealmOut _ _ _ _ _ _ _ _ hn HQ.out).mono ?_; rintro e w3 ⟨rfl, m3⟩)
        try simp only [Act.put, List.getElem_toArray, List.getElem_cons_succ, List.getElem_cons_zero, List.setIfInBounds_toArray, List.set_cons_zero, List.set_cons_succ]
        first | (refine wpAny_take (i := 7) (v := undef) rfl (by kernel_rfl) (by kernel_rfl) (by kernel_rfl) (fun _ _ _ h => h) (Or.inr ⟨by rfl, rfl⟩) ?_) | (refine wpAny_take (i := 7) (v := _) rfl (by kernel_rfl) (by kernel_rfl) (by kernel_rfl) (fun _ _ _ h => h) (Or.inl ⟨by rfl, fun w => by go_simp; try with_reducible rfl⟩) ?_)
        try simp only [Act.put, List.getElem_toArray, List.getElem_cons_succ, List.getElem_cons_zero, List.setIfInBounds_toArray, List.set_cons_zero, List.set_cons_succ]
        first | (refine wpAny_take (i := 8) (v := undef) rfl (by kernel_rfl) (by kernel_rfl) (by kernel_rfl) (fun _ _ _ h => h) (Or.inr ⟨by rfl, rfl⟩) ?_) | (refine wpAny_take (i := 8) (v := _) rfl (by kernel_rfl) (by kernel_rfl) (by kernel_rfl) (fun _ _ _ h => h) (Or.inl ⟨by rfl, fun w => by go_simp; try with_reducible rfl⟩) ?_)
        try simp only [Act.put, List.getElem_toArray, List.getElem_cons_succ, List.getElem_cons_zero, List.setIfInBounds_toArray, List.set_cons_zero, List.set_cons_succ]
        first | (refine wpAny_take (i := 9) (v := undef) rfl (by kernel_rfl) (by kernel_rfl) (by kernel_rfl) (fun _ _ _ h => h) (Or.inr ⟨by rfl, rfl⟩) ?_) | (refine wpAny_take (i := 9) (v := _) rfl (by kernel_rfl) (by kernel_rfl) (by kernel_rfl) (fun _ _ _ h => h) (Or.inl ⟨by rfl, fun w => by go_simp; try with_reducible rfl⟩) ?_)
        try simp only [Act.put, List.getElem_toArray, List.getElem_cons_succ, List.getElem_cons_zero, List.setIfInBounds_toArray, List.set_cons_zero, List.set_cons_succ]
        first | (refine wpAny_take (i := 10) (v := undef) rfl (by kernel_rfl) (by kernel_rfl) (by kernel_rfl) (fun _ _ _ h => h) (Or.inr ⟨by rfl, rfl⟩) ?_) | (refine wpAny_take (i := 10) (v := _) rfl (by kernel_rfl) (by kernel_rfl) (by kernel_rfl) (fun _ _ _ h => h) (Or.inl ⟨by rfl, fun w => by go_simp; try with_reducible rfl⟩) ?_)
        try simp only [Act.put, List.getElem_toArray, List.getElem_cons_succ, List.getElem_cons_zero, List.setIfInBounds_toArray, List.set_cons_zero, List.set_cons_succ]
        first | (refine wpAny_take (i := 11) (v := undef) rfl (by kernel_rfl) (by kernel_rfl) (by kernel_rfl) (fun _ _ _ h => h) (Or.inr ⟨by rfl, rfl⟩) ?_) | (refine wpAny_take (i := 11) (v := _) rfl (by kernel_rfl) (by kernel_rfl) (by kernel_rfl) (fun _ _ _ h => h) (Or.inl ⟨by rfl, fun w => by go_simp; try with_reducible rfl⟩) ?_)
        try simp only [Act.put, List.getElem_toArray, List.getElem_cons_succ, List.getElem_cons_zero, List.setIfInBounds_toArray, List.set_cons_zero, List.set_cons_succ]
        first | (refine wpAny_take (i := 12) (v := undef) rfl (by kernel_rfl) (by kernel_rfl) (by kernel_rfl) (fun _ _ _ h => h) (Or.inr ⟨by rfl, rfl⟩) ?_) | (refine wpAny_take (i := 12) (v := _) rfl (by kernel_rfl) (by kernel_rfl) (by kernel_rfl) (fun _ _ _ h => h) (Or.inl ⟨by rfl, fun w => by go_simp; try with_reducible rfl⟩) ?_)
        try simp only [Act.put, List.getElem_toArray, List.getElem_cons_succ, List.getElem_cons_zero, List.setIfInBounds_toArray, List.set_cons_zero, List.set_cons_succ]
        first | (refine wpAny_take (i := 13) (v := undef) rfl (by kernel_rfl) (by kernel_rfl) (by kernel_rfl) (fun _ _ _ h => h) (Or.inr ⟨by rfl, rfl⟩) ?_) | (refine wpAny_take (i := 13) (v := _) rfl (by kernel_rfl) (by kernel_rfl) (by kernel_rfl) (fun _ _ _ h => h) (Or.inl ⟨by rfl, fun w => by go_simp; try with_reducible rfl⟩) ?_)
        try simp only [Act.put, List.getElem_toArray, List.getElem_cons_succ, List.getElem_cons_zero, List.setIfInBounds_toArray, List.set_cons_zero, List.set_cons_succ]
        first | (refine wpAny_take (i := 14) (v := undef) rfl (by kernel_rfl) (by kernel_rfl) (by kernel_rfl) (fun _ _ _ h => h) (Or.inr ⟨by rfl, rfl⟩) ?_) | (refine wpAny_take (i := 14) (v := _) rfl (by kernel_rfl) (by kernel_rfl) (by kernel_rfl) (fun _ _ _ h => h) (Or.inl ⟨by rfl, fun w => by go_simp; try with_reducible rfl⟩) ?_)
        try simp only [Act.put, List.getElem_toArray, List.getElem_cons_succ, List.getElem_cons_zero, List.setIfInBounds_toArray, List.set_cons_zero, List.set_cons_succ]
        first | (refine wpAny_take (i := 15) (v := undef) rfl (by kernel_rfl) (by kernel_rfl) (by kernel_rfl) (fun _ _ _ h => h) (Or.inr ⟨by rfl, rfl⟩) ?_) | (refine wpAny_take (i := 15) (v := _) rfl (by kernel_rfl) (by kernel_rfl) (by kernel_rfl) (fun _ _ _ h => h) (Or.inl ⟨by rfl, fun w => by go_simp; try with_reducible rfl⟩) ?_)
        try simp only [Act.put, List.getElem_toArray, List.getElem_cons_succ, List.getElem_cons_zero, List.setIfInBounds_toArray, List.set_cons_zero, List.set_cons_succ]
        first | (refine wpAny_take (i := 16) (v := undef) rfl (by kernel_rfl) (by kernel_rfl) (by kernel_rfl) (fun _ _ _ h => h) (Or.inr ⟨by rfl, rfl⟩) ?_) | (refine wpAny_take (i := 16) (v := _) rfl (by kernel_rfl) (by kernel_rfl) (by kernel_rfl) (fun _ _ _ h => h) (Or.inl ⟨by rfl, fun w => by go_simp; try with_reducible rfl⟩) ?_)
        try simp only [Act.put, List.getElem_toArray, List.getElem_cons_succ, List.getElem_cons_zero, List.setIfInBounds_toArray, List.set_cons_zero, List.set_cons_succ]
        first | (refine wpAny_take (i := 17) (v := undef) rfl (by kernel_rfl) (by kernel_rfl) (by kernel_rfl) (fun _ _ _ h => h) (Or.inr ⟨by rfl, rfl⟩) ?_) | (refine wpAny_take (i := 17) (v := _) rfl (by kernel_rfl) (by kernel_rfl) (by kernel_rfl) (fun _ _ _ h => h) (Or.inl ⟨by rfl, fun w => by go_simp; try with_reducible rfl⟩) ?_)
        try simp only [Act.put, List.getElem_toArray, List.getElem_cons_succ, List.getElem_cons_zero, List.setIfInBounds_toArray, List.set_cons_zero, List.set_cons_succ]
        first | (refine wpAny_take (i := 18) (v := undef) rfl (by kernel_rfl) (by kernel_rfl) (by kernel_rfl) (fun _ _ _ h => h) (Or.inr ⟨by rfl, rfl⟩) ?_) | (refine wpAny_take (i := 18) (v := _) rfl (by kernel_rfl) (by kernel_rfl) (by kernel_rfl) (fun _ _ _ h => h) (Or.inl ⟨by rfl, fun w => by go_simp; try with_reducible rfl⟩) ?_)
        try simp only [Act.put, List.getElem_toArray, List.getElem_cons_succ, List.getElem_cons_zero, List.setIfInBounds_toArray, List.set_cons_zero, List.set_cons_succ]
        first | (refine wpAny_take (i := 19) (v := undef) rfl (by kernel_rfl) (by kernel_rfl) (by kernel_rfl) (fun _ _ _ h => h) (Or.inr ⟨by rfl, rfl⟩) ?_) | (refine wpAny_take (i := 19) (v := _) rfl (by kernel_rfl) (by kernel_rfl) (by kernel_rfl) (fun _ _ _ h => h) (Or.inl ⟨by rfl, fun w => by go_simp; try with_reducible rfl⟩) ?_)
        try simp only [Act.put, List.getElem_toArray, List.getElem_cons_succ, List.getElem_cons_zero, List.setIfInBounds_toArray, List.set_cons_zero, List.set_cons_succ]
        first | (refine wpAny_take (i := 20) (v := undef) rfl (by kernel_rfl) (by kernel_rfl) (by kernel_rfl) (fun _ _ _ h => h) (Or.inr ⟨by rfl, rfl⟩) ?_) | (refine wpAny_take (i := 20) (v := _) rfl (by kernel_rfl) (by kernel_rfl) (by kernel_rfl) (fun _ _ _ h => h) (Or.inl ⟨by rfl, fun w => by go_simp; try with_reducible rfl⟩) ?_)
        try simp only [Act.put, List.getElem_toArray, List.getElem_cons_succ, List.getElem_cons_zero, List.setIfInBounds_toArray, List.set_cons_zero, List.set_cons_succ]
        first | (refine wpAny_take (i := 21) (v := undef) rfl (by kernel_rfl) (by kernel_rfl) (by kernel_rfl) (fun _ _ _ h => h) (Or.inr ⟨by rfl, rfl⟩) ?_) | (refine wpAny_take (i := 21) (v := _) rfl (by kernel_rfl) (by kernel_rfl) (by kernel_rfl) (fun _ _ _ h => h) (Or.inl ⟨by rfl, fun w => by go_simp; try with_reducible rfl⟩) ?_)
        try simp only [Act.put, List.getElem_toArray, List.getElem_cons_succ, List.getElem_cons_zero, List.setIfInBounds_toArray, List.set_cons_zero, List.set_cons_succ]
        first | (refine wpAny_take (i := 22) (v := undef) rfl (by kernel_rfl) (by kernel_rfl) (by kernel_rfl) (fun _ _ _ h => h) (Or.inr ⟨by rfl, rfl⟩) ?_) | (refine wpAny_take (i := 22) (v := _) rfl (by kernel_rfl) (by kernel_rfl) (by kernel_rfl) (fun _ _ _ h => h) (Or.inl ⟨by rfl, fun w => by go_simp; try with_reducible rfl⟩) ?_)
        try simp only [Act.put, List.getElem_toArray, List.getElem_cons_succ, List.getElem_cons_zero, List.setIfInBounds_toArray, List.set_cons_zero, List.set_cons_succ]
        first | (refine wpAny_take (i := 23) (v := undef) rfl (by kernel_rfl) (by kernel_rfl) (by kernel_rfl) (fun _ _ _ h => h) (Or.inr ⟨by rfl, rfl⟩) ?_) | (refine wpAny_take (i := 23) (v := _) rfl (by kernel_rfl) (by kernel_rfl) (by kernel_rfl) (fun _ _ _ h => h) (Or.inl ⟨by rfl, fun w => by go_simp; try with_reducible rfl⟩) ?_)
        try simp only [Act.put, List.getElem_toArray, List.getElem_cons_succ, List.getElem_cons_zero, List.setIfInBounds_toArray, List.set_cons_zero, List.set_cons_succ]
        first | (refine wpAny_take (i := 24) (v := undef) rfl (by kernel_rfl) (by kernel_rfl) (by kernel_rfl) (fun _ _ _ h => h) (Or.inr ⟨by rfl, rfl⟩) ?_) | (refine wpAny_take (i := 24) (v := _) rfl (by kernel_rfl) (by kernel_rfl) (by kernel_rfl) (fun _ _ _ h => h) (Or.inl ⟨by rfl, fun w => by go_simp; try with_reducible rfl⟩) ?_)
        try simp only [Act.put, List.getElem_toArray, List.getElem_cons_succ, List.getElem_cons_zero, List.setIfInBounds_toArray, List.set_cons_zero, List.set_cons_succ]
        refine wpAny_done (by kernel_rfl) ?_ _
        have m4 : Mk0 ((w.alloc (Obj.cells #[Value.slice a0 n0 c0, Value.slice a1 n1 c1] 35)).alloc (Obj.cells #[Value.int .i64 (q : Int), Value.int .i64 ing, Value.int .i64 eg, Value.int .i64 exp, Value.int .i64 mac] 61)) w2 := ⟨m2.os, m2.tape, m2.output, m2.size, m2.block⟩
        have m5 : Mk0 w2 w3 := ⟨m3.os, m3.tape, m3.output, m3.size, m3.block⟩
        clear q2 r2 m2 m3
        refine ‹∀ (a : Act) (w : World), _ → _› _ _ ?_
        go_wp2_with fail
        go_ret
        exact ⟨retB HR.out.symm, ((Mk.alloc _ _).new _).trans (m4.trans m5)⟩

end Go.Proofs.YtdhdkhnefnbdgaaGreatDoor
