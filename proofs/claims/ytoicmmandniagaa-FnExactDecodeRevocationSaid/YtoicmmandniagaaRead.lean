
/- ReadVarint, by the program and by the model. -/
import Derived.Test.YtoicmmandniagaaRdMath
import Derived.Test.YtoicmmandniagaaMem
import Derived.Test.YtoicmmandniagaaInR
import Derived.Test.YtoicmmandniagaaMin
import Derived.Deep.QuietTactic
import Derived.BigQuiet
import Derived.WalkSpells
namespace Go.Proofs.Ytoicmmandniagaa
open Go.ChangeShapes Go.WideShapes Go.ChangeAt Go.RowKit
set_option linter.unusedVariables false
theorem ret_rd {r s : Option (Nat × Nat)} (h : r = s) : Ending.returned (rdV r) = .returned (rdV s) := by rw [h]
theorem ret3 {x y : Int} {n m : Nat} (h : x = (n : Int)) (h' : y = (m : Int)) : Ending.returned (.tuple #[.int .i64 x, .int .i64 y, .bool true]) = .returned (rdV (some (n, m))) := by rw [h, h']; rfl
theorem byte_at {zs : List Int} (h : ∀ z ∈ zs, (Lit.int .u8 z).wf = true) {i : Nat} (hi : i < zs.length) : 0 ≤ zs.getD i 0 ∧ zs.getD i 0 ≤ 255 := by
  have : zs.getD i 0 ∈ zs := by
    rw [List.getD_eq_getElem?_getD, List.getElem?_eq_getElem hi]
    exact List.getElem_mem _
  exact u8_of (h _ this)

set_option maxRecDepth 100000 in
set_option maxHeartbeats 1600000 in
theorem implRead (a : Option Addr) (n c : Nat) (x : Int) (zs : List Int) (w : World) (h : Has .u8 w w.heap.size a n zs) (hf : ∀ z ∈ zs, (Lit.int .u8 z).wf = true) (hn : n ≤ 1073741824) (hc : n ≤ c) (hx : -9223372036854775808 ≤ x ∧ x ≤ 9223372036854775807) :
    Calls Try.prog 56 #[.slice a n c, .int .i64 x] w fun e w' => e = .returned (rdV (rdAt zs x)) ∧ Below w.heap.size w w' := by
  have hl := h.1
  have HF := Lib.hid hf
  clear hf
  by_cases hin : 0 ≤ x ∧ x ≤ n
  · obtain ⟨h0, h1⟩ := hin
    obtain ⟨p, rfl⟩ := Int.eq_ofNat_of_zero_le h0
    have HV := Lib.hid (show rdAt zs (p : Int) = rdG zs p 6 0 0 from if_pos h0)
    have hpn : p ≤ n := by omega
    obtain ⟨M, hM⟩ : ∃ M, M = min (p + 6) n - p := ⟨_, rfl⟩
    have hMm : minV ((p : Int) + 6) n = (p : Int) + M := by unfold minV; split <;> omega
    have HMm := Lib.hid hMm
    have M6 : M ≤ 6 := by omega
    have Mn : p + M ≤ n := by omega
    have HM := Lib.hid (show M = 6 ∨ p + M = n by omega)
    have HL := Lib.hid hl
    clear hMm hM hl
    by_cases hM0 : M = 0
    · subst hM0
      obtain rfl : p = n := by have := HM.out; omega
      have HR := Lib.hid (show rdAt zs (p : Int) = none by rw [HV.out]; exact rdG_out (by rw [HL.out]; omega))
      have hMm' := HMm.out
      rw [show ((p : Int) + ((0 : Nat) : Int)) = (p : Int) by omega] at hMm'
      have HMm' := Lib.hid hMm'
      clear hMm'
      go_enter Try.func56, Try.ntmps56
      go_wp2_with fail
      refine (implInYes _ _ _ _ (by omega) (by omega)).mono ?_
      rintro e w' ⟨rfl, rfl⟩
      go_wp2_with fail
      refine (implMin _ _ _).mono ?_
      rw [HMm'.out]
      rintro e w1 ⟨rfl, hb1⟩
      go_wp2_with fail
      refine wp_loop_rounds 1 ?_; rw [rounds_succ]
      go_wp2
      go_ret3
      exact ⟨by rw [HR.out]; rfl, hb1⟩
    have hM1 : 0 < M := by omega
    obtain ⟨b, off, z0, rfl, hbs, _, _⟩ := h.at_ (i := p) (by omega)
    go_enter Try.func56, Try.ntmps56
    go_wp2_with fail
    refine (implInYes _ _ _ _ (by omega) (by omega)).mono ?_
    rintro e w' ⟨rfl, rfl⟩
    go_wp2_with fail
    refine (implMin _ _ _).mono ?_
    rw [HMm.out]
    rintro e w1 ⟨rfl, hb1⟩
    go_wp2_with fail
    go_loop [4, 5, 6, 8, 9, 28] (fun r0 r1 r2 v wt i => r0 = .int .i64 0 ∧ r1 = .int .i64 0 ∧ r2 = .bool false ∧ ∃ k acc q : Nat, k ≤ M ∧ v = .int .i64 acc ∧ wt = .int .i64 q ∧ i = .int .i64 k ∧ Hid (q = 128 ^ k) ∧ acc < q ∧ q ≤ 4398046511104 ∧ Hid (rdG zs p 6 0 0 = rdG zs p (6 - k) k acc)) (fun _ _ _ _ _ i => M - (intOf i).toNat)
    case atStart => exact ⟨rfl, rfl, rfl, 0, 0, 1, Nat.zero_le _, rfl, rfl, rfl, rfl, by omega, by omega, rfl⟩
    case round =>
      obtain ⟨rfl, rfl, rfl, k, acc, q, hk, rfl, rfl, rfl, hq, ha, hq2, hR⟩ := hrel
      by_cases hlt : k < M
      · obtain ⟨b', off', z, he, _, hz, hcell⟩ := (h.next hb1).at_ (i := p + k) (by omega)
        simp only [Option.some.injEq, Addr.mk.injEq, and_true] at he
        obtain ⟨rfl, rfl⟩ := he
        obtain ⟨z0, z255⟩ : 0 ≤ z ∧ z ≤ 255 := by rw [hz.out]; exact byte_at HF.out (by rw [HL.out]; omega)
        obtain ⟨y, rfl⟩ := Int.eq_ofNat_of_zero_le z0
        have hzy : Hid ((zs.getD (p + k) 0).toNat = y) := by rw [← hz.out]; simp [Hid]
        have hg := group_lt (acc := acc) (z := y) (k := k) (by rw [← hq.out]; exact ha)
        rw [← hq.out] at hg
        have hp1 := pow128_le (k + 1) (by omega)
        obtain ⟨t, ht⟩ : ∃ t : Nat, t = y % 128 * q := ⟨_, rfl⟩
        have htb : t ≤ 127 * 4398046511104 := by rw [ht]; exact Nat.mul_le_mul (by omega) hq2
        have hte : ((y : Int) % 128) * (q : Int) = (t : Int) := by rw [ht]; simp
        rw [← ht] at hg
        have HT := Lib.hid ht
        clear ht hz
        have hq128 : q * 128 ≤ 4398046511104 := by rw [hq.out, ← Nat.pow_succ]; exact hp1.1
        have HG : Hid (acc + t < q * 128) := by rw [hq.out, ← Nat.pow_succ]; exact hg
        rw [← Nat.add_assoc] at hcell
        have hf6 : 6 - k = (5 - k) + 1 := by omega
        clear hg hp1
        by_cases hbig : 128 ≤ y
        · have hR' : Hid (rdG zs p 6 0 0 = rdG zs p (6 - (k + 1)) (k + 1) (acc + t)) := by
            have hm := rdG_more (zs := zs) (p := p) (f := 5 - k) (k := k) (acc := acc) (by rw [HL.out]; omega) hzy.out hbig
            have e6 : 6 - (k + 1) = 5 - k := by omega
            rw [hf6, hm, ← hq.out, ← HT.out] at hR
            rw [e6]; exact hR
          have hq' : Hid (q * 128 = 128 ^ (k + 1)) := by rw [hq.out, ← Nat.pow_succ]; rfl
          have hbig' : (128 : Int) ≤ (y : Int) := by omega
          have hag := HG.out
          clear hf6
          go_wp2
          go_round
          case rel => exact ⟨rfl, rfl, rfl, k + 1, acc + t, q * 128, by omega, by go_num, by go_num, by go_num, hq', hag, hq128, hR'⟩
          case measure => simp [intOf]; omega
        · have hsm : (y : Int) < 128 := by omega
          by_cases hbad : (0 < k ∧ y = 0) ∨ 1000000000000 < acc + t
          · have hR' : Hid (rdAt zs (p : Int) = none) := by
              have hm := rdG_bad (zs := zs) (p := p) (f := 5 - k) (k := k) (acc := acc) (by rw [HL.out]; omega) hzy.out (by omega) (by rw [← hq.out, ← HT.out]; exact hbad)
              rw [HV.out, hR.out, hf6, hm]; rfl
            clear hf6
            by_cases hk0 : 0 < k
            · have hk0' : (0 : Int) < (k : Int) := by omega
              by_cases hy0 : y = 0
              · subst hy0
                clear hbad
                go_wp2
                go_ret3
                exact ⟨by rw [hR'.out]; rfl, hb1⟩
              · have hy1 : ((y : Int) == 0) = false := by simp; omega
                have hov : decide ((1000000000000 : Int) < (acc : Int) + (t : Int)) = true := by simp; omega
                clear hbad
                go_wp2
                go_ret3
                exact ⟨by rw [hR'.out]; rfl, hb1⟩
            · have hk1 : (k : Int) ≤ 0 := by omega
              have hov : decide ((1000000000000 : Int) < (acc : Int) + (t : Int)) = true := by simp; omega
              clear hbad
              go_wp2
              go_ret3
              exact ⟨by rw [hR'.out]; rfl, hb1⟩
          · have hR' : Hid (rdAt zs (p : Int) = some (acc + t, p + k + 1)) := by
              have hm := rdG_good (zs := zs) (p := p) (f := 5 - k) (k := k) (acc := acc) (by rw [HL.out]; omega) hzy.out (by omega) (by rw [← hq.out, ← HT.out]; exact hbad)
              rw [HV.out, hR.out, hf6, hm, ← hq.out, ← HT.out]; rfl
            have hov : decide ((1000000000000 : Int) < (acc : Int) + (t : Int)) = false := by simp; omega
            clear hf6
            by_cases hk0 : 0 < k
            · have hk0' : (0 : Int) < (k : Int) := by omega
              have hy1 : ((y : Int) == 0) = false := by simp; omega
              clear hbad
              go_wp2
              go_ret3
              exact ⟨by rw [hR'.out]; simp [rdV], hb1⟩
            · have hk1 : (k : Int) ≤ 0 := by omega
              clear hbad
              go_wp2
              go_ret3
              exact ⟨by rw [hR'.out]; simp [rdV], hb1⟩
      · obtain rfl : k = M := by omega
        have hR' : Hid (rdAt zs (p : Int) = none) := by
          rw [HV.out, hR.out]
          rcases HM.out with h6 | h6
          · rw [h6]; rfl
          · rw [rdG_out (by rw [HL.out]; omega)]; rfl
        go_wp2
        go_ret3
        exact ⟨by rw [hR'.out]; rfl, hb1⟩
  · have HR := Lib.hid (show rdAt zs x = none by
      unfold rdAt
      split
      · rw [rdG_out (by rw [hl]; omega)]
      · rfl)
    clear hl
    go_enter Try.func56, Try.ntmps56
    go_wp2_with fail
    refine (implInNo _ _ _ _ (by omega)).mono ?_
    rintro e w' ⟨rfl, rfl⟩
    go_wp2_with fail
    go_ret3
    exact ⟨by rw [HR.out]; rfl, Below.refl _ _⟩

set_option maxRecDepth 100000 in
set_option maxHeartbeats 1600000 in
theorem specRead (a : Option Addr) (n c B : Nat) (x : Int) (zs : List Int) (w : World) (h : Has .u8 w B a n zs) (hf : ∀ z ∈ zs, (Lit.int .u8 z).wf = true) (hn : n ≤ 1073741824) (hx : -9223372036854775808 ≤ x ∧ x ≤ 9223372036854775807) :
    Calls Try.prog 41 #[.slice a n c, .int .i64 x] w fun e w' => e = .returned (rdV (rdAt zs x)) ∧ w = w' := by
  have hl := h.1
  have HL := Lib.hid hl
  have HF := Lib.hid hf
  clear hf hl
  by_cases h0 : 0 ≤ x
  · obtain ⟨p, rfl⟩ := Int.eq_ofNat_of_zero_le h0
    have HV := Lib.hid (show rdAt zs (p : Int) = rdG zs p 6 0 0 from if_pos h0)
    go_enter Try.func41, Try.ntmps41
    go_wp2
    go_loop [4, 5, 6, 7, 8] (fun r0 r1 r2 v i => r0 = .int .i64 0 ∧ r1 = .int .i64 0 ∧ r2 = .bool false ∧ ∃ k acc q : Nat, k ≤ 6 ∧ v = .int .i64 acc ∧ i = .int .i64 k ∧ Hid (q = 128 ^ k) ∧ acc < q ∧ q ≤ 4398046511104 ∧ Hid (rdG zs p 6 0 0 = rdG zs p (6 - k) k acc)) (fun _ _ _ _ i => 6 - (intOf i).toNat)
    case atStart => exact ⟨rfl, rfl, rfl, 0, 0, 1, by omega, rfl, rfl, rfl, by omega, by omega, rfl⟩
    case round =>
      obtain ⟨rfl, rfl, rfl, k, acc, q, hk, rfl, rfl, hq, ha, hq2, hR⟩ := hrel
      by_cases hk6 : k < 6
      · by_cases hlt : p + k < n
        · obtain ⟨b, off, z, rfl, _, hz, hcell⟩ := h.at_ (i := p + k) hlt
          obtain ⟨z0, z255⟩ : 0 ≤ z ∧ z ≤ 255 := by rw [hz.out]; exact byte_at HF.out (by rw [HL.out]; omega)
          obtain ⟨y, rfl⟩ := Int.eq_ofNat_of_zero_le z0
          have hd1 : decide ((n : Int) - (k : Int) ≤ (p : Int)) = false := by simp; omega
          have hzy : Hid ((zs.getD (p + k) 0).toNat = y) := by rw [← hz.out]; simp [Hid]
          have hg := group_lt (acc := acc) (z := y) (k := k) (by rw [← hq.out]; exact ha)
          rw [← hq.out] at hg
          have hp1 := pow128_le (k + 1) (by omega)
          obtain ⟨t, ht⟩ : ∃ t : Nat, t = y % 128 * q := ⟨_, rfl⟩
          have hor := group_or (by omega) hq.out ha ht
          rw [← ht] at hg
          obtain ⟨s, hs⟩ : ∃ s : Nat, s = acc + t := ⟨_, rfl⟩
          rw [← hs] at hor hg
          have HT := Lib.hid ht
          have HS := Lib.hid hs
          have hq128 : q * 128 ≤ 4398046511104 := by rw [hq.out, ← Nat.pow_succ]; exact hp1.1
          have HG : Hid (s < q * 128) := by rw [hq.out, ← Nat.pow_succ]; exact hg
          have hf6 : 6 - k = (5 - k) + 1 := by omega
          clear hg hp1 ht hs hz
          by_cases hbig : 128 ≤ y
          · have hR' : Hid (rdG zs p 6 0 0 = rdG zs p (6 - (k + 1)) (k + 1) s) := by
              have hm := rdG_more (zs := zs) (p := p) (f := 5 - k) (k := k) (acc := acc) (by rw [HL.out]; omega) hzy.out hbig
              have e6 : 6 - (k + 1) = 5 - k := by omega
              rw [hf6, hm, ← hq.out, ← HT.out, ← HS.out] at hR
              rw [e6]; exact hR
            have hq' : Hid (q * 128 = 128 ^ (k + 1)) := by rw [hq.out, ← Nat.pow_succ]; rfl
            have hbig' : (128 : Int) ≤ (y : Int) := by omega
            have hag := HG.out
            clear hf6
            go_wp2
            go_round
            case rel => exact ⟨rfl, rfl, rfl, k + 1, s, q * 128, by omega, by first | rfl | (rw [hor]) | go_num, by go_num, hq', hag, hq128, hR'⟩
            case measure => simp [intOf]; omega
          · have hsm : (y : Int) < 128 := by omega
            by_cases hbad : (0 < k ∧ y = 0) ∨ 1000000000000 < s
            · have hR' : Hid (rdAt zs (p : Int) = none) := by
                have hm := rdG_bad (zs := zs) (p := p) (f := 5 - k) (k := k) (acc := acc) (by rw [HL.out]; omega) hzy.out (by omega) (by rw [← hq.out, ← HT.out, ← HS.out]; exact hbad)
                rw [HV.out, hR.out, hf6, hm]; rfl
              clear hf6
              by_cases hy0 : y = 0
              · have hy1 : ((y : Int) == 0) = true := by simp; omega
                by_cases hk0 : 0 < k
                · have hk0' : decide ((0 : Int) < (k : Int)) = true := by simp; omega
                  clear hbad hy0
                  go_wp2
                  go_ret3
                  exact ⟨by rw [hR'.out]; rfl, rfl⟩
                · have hk0' : decide ((0 : Int) < (k : Int)) = false := by simp; omega
                  have hov : decide ((1000000000000 : Int) < (s : Int)) = true := by simp; omega
                  clear hbad hy0
                  go_wp2
                  go_ret3
                  exact ⟨by rw [hR'.out]; rfl, rfl⟩
              · have hy1 : ((y : Int) == 0) = false := by simp; omega
                have hov : decide ((1000000000000 : Int) < (s : Int)) = true := by simp; omega
                clear hbad hy0
                go_wp2
                go_ret3
                exact ⟨by rw [hR'.out]; rfl, rfl⟩
            · have hR' : Hid (rdAt zs (p : Int) = some (s, p + k + 1)) := by
                have hm := rdG_good (zs := zs) (p := p) (f := 5 - k) (k := k) (acc := acc) (by rw [HL.out]; omega) hzy.out (by omega) (by rw [← hq.out, ← HT.out, ← HS.out]; exact hbad)
                rw [HV.out, hR.out, hf6, hm, ← hq.out, ← HT.out, ← HS.out]; rfl
              have hov : decide ((1000000000000 : Int) < (s : Int)) = false := by simp; omega
              clear hf6
              by_cases hy0 : y = 0
              · have hy1 : ((y : Int) == 0) = true := by simp; omega
                have hk0' : decide ((0 : Int) < (k : Int)) = false := by simp; omega
                have hk1 : (k : Int) ≤ 0 := by omega
                clear hbad hy0
                go_wp2
                all_goals first
                  | (exfalso; omega)
                  | (go_ret3; refine ⟨?_, rfl⟩; rw [hR'.out]; refine ret3 ?_ ?_; · first | exact hor | rfl
                     · omega)
              · have hy1 : ((y : Int) == 0) = false := by simp; omega
                clear hbad hy0
                go_wp2
                go_ret3
                refine ⟨?_, rfl⟩
                rw [hR'.out]
                refine ret3 ?_ ?_
                · first | exact hor | rfl
                · omega
        · have hR' : Hid (rdAt zs (p : Int) = none) := by rw [HV.out, hR.out, rdG_out (by rw [HL.out]; omega)]; rfl
          have hd1 : decide ((n : Int) - (k : Int) ≤ (p : Int)) = true := by simp; omega
          go_wp2
          go_ret3
          exact ⟨by rw [hR'.out]; rfl, rfl⟩
      · obtain rfl : k = 6 := by omega
        have hR' : Hid (rdAt zs (p : Int) = none) := by rw [HV.out, hR.out]; rfl
        go_wp2
        go_ret3
        exact ⟨by rw [hR'.out]; rfl, rfl⟩
  · have HR := Lib.hid (show rdAt zs x = none from if_neg h0)
    have hneg : x < 0 := by omega
    go_enter Try.func41, Try.ntmps41
    go_wp2
    refine wp_loop_rounds 1 ?_; rw [rounds_succ]
    go_wp2
    go_ret3
    exact ⟨by rw [HR.out]; rfl, rfl⟩

theorem implReadNone (a : Option Addr) (n c : Nat) (x : Int) (zs : List Int) (w : World) (h : Has .u8 w w.heap.size a n zs) (hf : ∀ z ∈ zs, (Lit.int .u8 z).wf = true) (hn : n ≤ 1073741824) (hc : n ≤ c) (hx : (Lit.int .i64 x).wf = true) (hr : rdAt zs x = none) :
    Calls Try.prog 56 #[.slice a n c, .int .i64 x] w fun e w' => e = .returned (.tuple #[.int .i64 0, .int .i64 0, .bool false]) ∧ Below w.heap.size w w' :=
  (implRead a n c x zs w h hf hn hc (i64_of hx)).mono (fun e w' ⟨h1, h2⟩ => ⟨by rw [h1, hr]; rfl, h2⟩)
theorem implReadSome (a : Option Addr) (n c : Nat) (x : Int) (zs : List Int) (w : World) (h : Has .u8 w w.heap.size a n zs) (hf : ∀ z ∈ zs, (Lit.int .u8 z).wf = true) (hn : n ≤ 1073741824) (hc : n ≤ c) (hx : (Lit.int .i64 x).wf = true) {rn rm : Nat} (hr : rdAt zs x = some (rn, rm)) :
    Calls Try.prog 56 #[.slice a n c, .int .i64 x] w fun e w' => e = .returned (.tuple #[.int .i64 rn, .int .i64 rm, .bool true]) ∧ Below w.heap.size w w' :=
  (implRead a n c x zs w h hf hn hc (i64_of hx)).mono (fun e w' ⟨h1, h2⟩ => ⟨by rw [h1, hr]; rfl, h2⟩)
theorem specReadNone (a : Option Addr) (n c B : Nat) (x : Int) (zs : List Int) (w : World) (h : Has .u8 w B a n zs) (hf : ∀ z ∈ zs, (Lit.int .u8 z).wf = true) (hn : n ≤ 1073741824) (hx : (Lit.int .i64 x).wf = true) (hr : rdAt zs x = none) :
    Calls Try.prog 41 #[.slice a n c, .int .i64 x] w fun e w' => e = .returned (.tuple #[.int .i64 0, .int .i64 0, .bool false]) ∧ w = w' :=
  (specRead a n c B x zs w h hf hn (i64_of hx)).mono (fun e w' ⟨h1, h2⟩ => ⟨by rw [h1, hr]; rfl, h2⟩)
theorem specReadSome (a : Option Addr) (n c B : Nat) (x : Int) (zs : List Int) (w : World) (h : Has .u8 w B a n zs) (hf : ∀ z ∈ zs, (Lit.int .u8 z).wf = true) (hn : n ≤ 1073741824) (hx : (Lit.int .i64 x).wf = true) {rn rm : Nat} (hr : rdAt zs x = some (rn, rm)) :
    Calls Try.prog 41 #[.slice a n c, .int .i64 x] w fun e w' => e = .returned (.tuple #[.int .i64 rn, .int .i64 rm, .bool true]) ∧ w = w' :=
  (specRead a n c B x zs w h hf hn (i64_of hx)).mono (fun e w' ⟨h1, h2⟩ => ⟨by rw [h1, hr]; rfl, h2⟩)
end Go.Proofs.Ytoicmmandniagaa
