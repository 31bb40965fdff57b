
/- slices.Reverse over an own row. -/
import Derived.Test.YtbkbkpnpllemfaaOwnN
import Derived.Test.YtbkbkpnpllemfaaWs
import Derived.Test.YtbkbkpnpllemfaaTurn
namespace Go.Proofs.Ytbkbkpnpllemfaa
open Go.ChangeShapes Go.WideShapes Go.ChangeAt Go.RowKit
set_option linter.unusedVariables false
/-- The row with the first k and the last k turned. -/
def swpHop (zs : List THop) (n k : Nat) : List THop := (List.range n).map fun q => if q < k ∨ n < q + k + 1 then zs.getD (n - 1 - q) default else zs.getD q default
theorem swpHop_at (zs : List THop) (k : Nat) {n q : Nat} (h : q < n) : (swpHop zs n k).getD q default = if q < k ∨ n < q + k + 1 then zs.getD (n - 1 - q) default else zs.getD q default := getD_map_range h
theorem swpHop_next (zs : List THop) {n k m : Nat} (h : n = m + k + 1) (hk : k < m) : swpHop zs n (k + 1) = ((swpHop zs n k).set k (zs.getD m default)).set m (zs.getD k default) := by
  refine List.ext_getElem (by simp [swpHop]) fun q h1 h2 => ?_
  have hq : q < n := by simpa [swpHop] using h1
  simp only [List.getElem_set, swpHop, List.getElem_map, List.getElem_range]
  by_cases e1 : m = q
  · subst e1
    rw [if_pos rfl, if_pos (by omega), show n - 1 - m = k by omega]
  · rw [if_neg e1]
    by_cases e2 : k = q
    · subst e2
      rw [if_pos rfl, if_pos (by omega), show n - 1 - k = m by omega]
    · rw [if_neg e2]
      by_cases e3 : q < k ∨ n < q + k + 1
      · rw [if_pos e3, if_pos (by omega)]
      · rw [if_neg e3, if_neg (by omega)]
theorem swpHop_all (zs : List THop) {n k : Nat} (h : n ≤ 2 * k + 1) : swpHop zs n k = turnL (fun x => x) zs n := by
  refine List.ext_getElem (by simp [swpHop, turnL]) fun q h1 h2 => ?_
  have hq : q < n := by simpa [swpHop] using h1
  simp only [swpHop, turnL, List.getElem_map, List.getElem_range]
  by_cases e : q < k ∨ n < q + k + 1
  · rw [if_pos e]
  · rw [if_neg e, show n - 1 - q = q by omega]
set_option maxRecDepth 100000 in
set_option maxHeartbeats 16000000 in
theorem reverseHop (a : Option Addr) (n c lo hi : Nat) (zs : List THop) (w : World) (h : OwnHop w lo hi a n zs) (hn : n ≤ 1048576) :
    Calls Try.prog 51 #[.slice a n c] w fun e w' => (∃ v, e = .returned v) ∧ OwnHop w' lo hi a n (turnL (fun x => x) zs n) ∧ Mk lo hi w w' := by
  by_cases hz : n = 0
  · subst hz
    obtain rfl : zs = [] := List.length_eq_zero_iff.1 h.1
    go_enter Try.func51, Try.ntmps51
    go_wp2
    refine wp_loop_rounds 1 ?_; rw [rounds_succ]
    go_wp2
    refine bodyPost_end (results_none rfl _ _ _) rfl ?_
    exact ⟨⟨_, rfl⟩, OwnR.none_ _ _ _ _, Mk.refl _ _ _⟩
  · obtain ⟨b, off, rfl, hl, hh, hc⟩ := h.2 (by omega)
    have hC : Cl w b off (n * 5) (flat 5 THop.cell (swpHop zs n 0)) := by
      refine Cl.congr (F := flat 5 THop.cell zs) hc (flat_congr (by decide) fun i hi r hr => ?_)
      rw [flat_at _ i r hr, swpHop_at zs 0 hi, if_neg (by omega)]
    have hlen := h.1
    clear hc h
    go_enter Try.func51, Try.ntmps51
    go_wp2
    go_loopw [2, 3] (fun i j wr => ∃ k : Nat, 2 * k ≤ n + 1 ∧ i = .int .i64 (k : Int) ∧ j = .int .i64 ((n : Int) - 1 - (k : Int)) ∧ Cl wr b off (n * 5) (flat 5 THop.cell (swpHop zs n k)) ∧ Mk lo hi w wr) (fun i j _ => (intOf j - intOf i + 1).toNat)
    case atStart => exact ⟨0, by omega, rfl, by simp, hC, Mk.refl _ _ _⟩
    case round =>
      clear hC
      obtain ⟨k, hk, rfl, rfl, hC, hM⟩ := hrel
      by_cases hlt : 2 * k + 1 < n
      · obtain ⟨m, hm⟩ : ∃ m, Hid (n = m + k + 1) := ⟨n - 1 - k, by show n = n - 1 - k + k + 1; omega⟩
        have hkm : k < m := by have := hm.out; omega
        have hmn : m < n := by have := hm.out; omega
        have hkn : k < n := by omega
        rw [show (n : Int) - 1 - (k : Int) = (m : Int) by have := hm.out; omega]
        obtain ⟨x, hx⟩ : ∃ x, Hid (x = zs.getD k default) := ⟨_, Lib.hid rfl⟩
        have x0 := (hC (k * 5 + 0) (flat_le (nc := 5) hkn (by decide))).1
        rw [flat_at _ k 0 (by decide), swpHop_at zs k hkn, if_neg (by have := hm.out; omega), ← hx.out] at x0
        rw [Nat.add_zero] at x0
        have fx0 := (hC (k * 5 + 0) (flat_le (nc := 5) hkn (by decide))).2
        rw [Nat.add_zero] at fx0
        have x1 := (hC (k * 5 + 1) (flat_le (nc := 5) hkn (by decide))).1
        rw [flat_at _ k 1 (by decide), swpHop_at zs k hkn, if_neg (by have := hm.out; omega), ← hx.out] at x1
        rw [← Nat.add_assoc] at x1
        have fx1 := (hC (k * 5 + 1) (flat_le (nc := 5) hkn (by decide))).2
        rw [← Nat.add_assoc] at fx1
        have x2 := (hC (k * 5 + 2) (flat_le (nc := 5) hkn (by decide))).1
        rw [flat_at _ k 2 (by decide), swpHop_at zs k hkn, if_neg (by have := hm.out; omega), ← hx.out] at x2
        rw [← Nat.add_assoc] at x2
        have fx2 := (hC (k * 5 + 2) (flat_le (nc := 5) hkn (by decide))).2
        rw [← Nat.add_assoc] at fx2
        have x3 := (hC (k * 5 + 3) (flat_le (nc := 5) hkn (by decide))).1
        rw [flat_at _ k 3 (by decide), swpHop_at zs k hkn, if_neg (by have := hm.out; omega), ← hx.out] at x3
        rw [← Nat.add_assoc] at x3
        have fx3 := (hC (k * 5 + 3) (flat_le (nc := 5) hkn (by decide))).2
        rw [← Nat.add_assoc] at fx3
        have x4 := (hC (k * 5 + 4) (flat_le (nc := 5) hkn (by decide))).1
        rw [flat_at _ k 4 (by decide), swpHop_at zs k hkn, if_neg (by have := hm.out; omega), ← hx.out] at x4
        rw [← Nat.add_assoc] at x4
        have fx4 := (hC (k * 5 + 4) (flat_le (nc := 5) hkn (by decide))).2
        rw [← Nat.add_assoc] at fx4
        obtain ⟨y, hy⟩ : ∃ y, Hid (y = zs.getD m default) := ⟨_, Lib.hid rfl⟩
        have y0 := (hC (m * 5 + 0) (flat_le (nc := 5) hmn (by decide))).1
        rw [flat_at _ m 0 (by decide), swpHop_at zs k hmn, if_neg (by have := hm.out; omega), ← hy.out] at y0
        rw [Nat.add_zero] at y0
        have fy0 := (hC (m * 5 + 0) (flat_le (nc := 5) hmn (by decide))).2
        rw [Nat.add_zero] at fy0
        have y1 := (hC (m * 5 + 1) (flat_le (nc := 5) hmn (by decide))).1
        rw [flat_at _ m 1 (by decide), swpHop_at zs k hmn, if_neg (by have := hm.out; omega), ← hy.out] at y1
        rw [← Nat.add_assoc] at y1
        have fy1 := (hC (m * 5 + 1) (flat_le (nc := 5) hmn (by decide))).2
        rw [← Nat.add_assoc] at fy1
        have y2 := (hC (m * 5 + 2) (flat_le (nc := 5) hmn (by decide))).1
        rw [flat_at _ m 2 (by decide), swpHop_at zs k hmn, if_neg (by have := hm.out; omega), ← hy.out] at y2
        rw [← Nat.add_assoc] at y2
        have fy2 := (hC (m * 5 + 2) (flat_le (nc := 5) hmn (by decide))).2
        rw [← Nat.add_assoc] at fy2
        have y3 := (hC (m * 5 + 3) (flat_le (nc := 5) hmn (by decide))).1
        rw [flat_at _ m 3 (by decide), swpHop_at zs k hmn, if_neg (by have := hm.out; omega), ← hy.out] at y3
        rw [← Nat.add_assoc] at y3
        have fy3 := (hC (m * 5 + 3) (flat_le (nc := 5) hmn (by decide))).2
        rw [← Nat.add_assoc] at fy3
        have y4 := (hC (m * 5 + 4) (flat_le (nc := 5) hmn (by decide))).1
        rw [flat_at _ m 4 (by decide), swpHop_at zs k hmn, if_neg (by have := hm.out; omega), ← hy.out] at y4
        rw [← Nat.add_assoc] at y4
        have fy4 := (hC (m * 5 + 4) (flat_le (nc := 5) hmn (by decide))).2
        rw [← Nat.add_assoc] at fy4
        have hbr := World.block_lt_of_cell? _ _ x0
        simp only at hbr
        have i1 : (0 : Int) ≤ (k : Int) := by omega
        have i2 : (k : Int) < (n : Int) := by omega
        have i3 : (0 : Int) ≤ (m : Int) := by omega
        have i4 : (m : Int) < (n : Int) := by omega
        have i5 : (k : Int) < (m : Int) := by omega
        go_wp2_with fail
        refine wp_region_wkt (fun w' => Mk0 wr w' ∧ w'.cell? ⟨b, off + k * 5, none⟩ = some (.int .i64 x.nd) ∧ w'.cell? ⟨b, off + k * 5 + 1, none⟩ = some (.int .i64 x.ing) ∧ w'.cell? ⟨b, off + k * 5 + 2, none⟩ = some (.int .i64 x.eg) ∧ w'.cell? ⟨b, off + k * 5 + 3, none⟩ = some (.int .i64 x.exp) ∧ w'.cell? ⟨b, off + k * 5 + 4, none⟩ = some (.int .i64 x.mac) ∧ w'.cell? ⟨b, off + m * 5, none⟩ = some (.int .i64 y.nd) ∧ w'.cell? ⟨b, off + m * 5 + 1, none⟩ = some (.int .i64 y.ing) ∧ w'.cell? ⟨b, off + m * 5 + 2, none⟩ = some (.int .i64 y.eg) ∧ w'.cell? ⟨b, off + m * 5 + 3, none⟩ = some (.int .i64 y.exp) ∧ w'.cell? ⟨b, off + m * 5 + 4, none⟩ = some (.int .i64 y.mac)) 12 (by kernel_rfl) (by kernel_rfl) (by kernel_rfl) (by decide) (⟨Mk.drew1 _, x0, x1, x2, x3, x4, y0, y1, y2, y3, y4⟩) ?_
        change WkT _ _ _ _ _ 12 0 _
        first | (refine WkT.skip (m := 11) (k := 0) rfl (by rfl) ?_) | (refine WkT.pure (m := 11) (k := 0) (v := _) rfl (by rfl) (fun wv => by go_simp; try with_reducible rfl) ?_) | (refine WkT.step (m := 11) (k := 0) (v := _) rfl (by rfl) (by kernel_rfl) (fun wv hS => by obtain ⟨s0, s1, s2, s3, s4, s5, s6, s7, s8, s9, s10⟩ := hS; go_simp; try with_reducible rfl) ?_)
        try simp only [Act.put, List.getElem_toArray, List.getElem_cons_zero, List.setIfInBounds_toArray, List.set_cons_zero, List.set_cons_succ]
        first | (refine WkT.skip (m := 10) (k := 1) rfl (by rfl) ?_) | (refine WkT.pure (m := 10) (k := 1) (v := _) rfl (by rfl) (fun wv => by go_simp; try with_reducible rfl) ?_) | (refine WkT.step (m := 10) (k := 1) (v := _) rfl (by rfl) (by kernel_rfl) (fun wv hS => by obtain ⟨s0, s1, s2, s3, s4, s5, s6, s7, s8, s9, s10⟩ := hS; go_simp; try with_reducible rfl) ?_)
        try simp only [Act.put, List.getElem_toArray, List.getElem_cons_succ, List.getElem_cons_zero, List.setIfInBounds_toArray, List.set_cons_zero, List.set_cons_succ]
        first | (refine WkT.skip (m := 9) (k := 2) rfl (by rfl) ?_) | (refine WkT.pure (m := 9) (k := 2) (v := _) rfl (by rfl) (fun wv => by go_simp; try with_reducible rfl) ?_) | (refine WkT.step (m := 9) (k := 2) (v := _) rfl (by rfl) (by kernel_rfl) (fun wv hS => by obtain ⟨s0, s1, s2, s3, s4, s5, s6, s7, s8, s9, s10⟩ := hS; go_simp; try with_reducible rfl) ?_)
        try simp only [Act.put, List.getElem_toArray, List.getElem_cons_succ, List.getElem_cons_zero, List.setIfInBounds_toArray, List.set_cons_zero, List.set_cons_succ]
        first | (refine WkT.skip (m := 8) (k := 3) rfl (by rfl) ?_) | (refine WkT.pure (m := 8) (k := 3) (v := _) rfl (by rfl) (fun wv => by go_simp; try with_reducible rfl) ?_) | (refine WkT.step (m := 8) (k := 3) (v := _) rfl (by rfl) (by kernel_rfl) (fun wv hS => by obtain ⟨s0, s1, s2, s3, s4, s5, s6, s7, s8, s9, s10⟩ := hS; go_simp; try with_reducible rfl) ?_)
        try simp only [Act.put, List.getElem_toArray, List.getElem_cons_succ, List.getElem_cons_zero, List.setIfInBounds_toArray, List.set_cons_zero, List.set_cons_succ]
        first | (refine WkT.skip (m := 7) (k := 4) rfl (by rfl) ?_) | (refine WkT.pure (m := 7) (k := 4) (v := _) rfl (by rfl) (fun wv => by go_simp; try with_reducible rfl) ?_) | (refine WkT.step (m := 7) (k := 4) (v := _) rfl (by rfl) (by kernel_rfl) (fun wv hS => by obtain ⟨s0, s1, s2, s3, s4, s5, s6, s7, s8, s9, s10⟩ := hS; go_simp; try with_reducible rfl) ?_)
        try simp only [Act.put, List.getElem_toArray, List.getElem_cons_succ, List.getElem_cons_zero, List.setIfInBounds_toArray, List.set_cons_zero, List.set_cons_succ]
        first | (refine WkT.skip (m := 6) (k := 5) rfl (by rfl) ?_) | (refine WkT.pure (m := 6) (k := 5) (v := _) rfl (by rfl) (fun wv => by go_simp; try with_reducible rfl) ?_) | (refine WkT.step (m := 6) (k := 5) (v := _) rfl (by rfl) (by kernel_rfl) (fun wv hS => by obtain ⟨s0, s1, s2, s3, s4, s5, s6, s7, s8, s9, s10⟩ := hS; go_simp; try with_reducible rfl) ?_)
        try simp only [Act.put, List.getElem_toArray, List.getElem_cons_succ, List.getElem_cons_zero, List.setIfInBounds_toArray, List.set_cons_zero, List.set_cons_succ]
        first | (refine WkT.skip (m := 5) (k := 6) rfl (by rfl) ?_) | (refine WkT.pure (m := 5) (k := 6) (v := _) rfl (by rfl) (fun wv => by go_simp; try with_reducible rfl) ?_) | (refine WkT.step (m := 5) (k := 6) (v := _) rfl (by rfl) (by kernel_rfl) (fun wv hS => by obtain ⟨s0, s1, s2, s3, s4, s5, s6, s7, s8, s9, s10⟩ := hS; go_simp; try with_reducible rfl) ?_)
        try simp only [Act.put, List.getElem_toArray, List.getElem_cons_succ, List.getElem_cons_zero, List.setIfInBounds_toArray, List.set_cons_zero, List.set_cons_succ]
        first | (refine WkT.skip (m := 4) (k := 7) rfl (by rfl) ?_) | (refine WkT.pure (m := 4) (k := 7) (v := _) rfl (by rfl) (fun wv => by go_simp; try with_reducible rfl) ?_) | (refine WkT.step (m := 4) (k := 7) (v := _) rfl (by rfl) (by kernel_rfl) (fun wv hS => by obtain ⟨s0, s1, s2, s3, s4, s5, s6, s7, s8, s9, s10⟩ := hS; go_simp; try with_reducible rfl) ?_)
        try simp only [Act.put, List.getElem_toArray, List.getElem_cons_succ, List.getElem_cons_zero, List.setIfInBounds_toArray, List.set_cons_zero, List.set_cons_succ]
        first | (refine WkT.skip (m := 3) (k := 8) rfl (by rfl) ?_) | (refine WkT.pure (m := 3) (k := 8) (v := _) rfl (by rfl) (fun wv => by go_simp; try with_reducible rfl) ?_) | (refine WkT.step (m := 3) (k := 8) (v := _) rfl (by rfl) (by kernel_rfl) (fun wv hS => by obtain ⟨s0, s1, s2, s3, s4, s5, s6, s7, s8, s9, s10⟩ := hS; go_simp; try with_reducible rfl) ?_)
        try simp only [Act.put, List.getElem_toArray, List.getElem_cons_succ, List.getElem_cons_zero, List.setIfInBounds_toArray, List.set_cons_zero, List.set_cons_succ]
        first | (refine WkT.skip (m := 2) (k := 9) rfl (by rfl) ?_) | (refine WkT.pure (m := 2) (k := 9) (v := _) rfl (by rfl) (fun wv => by go_simp; try with_reducible rfl) ?_) | (refine WkT.step (m := 2) (k := 9) (v := _) rfl (by rfl) (by kernel_rfl) (fun wv hS => by obtain ⟨s0, s1, s2, s3, s4, s5, s6, s7, s8, s9, s10⟩ := hS; go_simp; try with_reducible rfl) ?_)
        try simp only [Act.put, List.getElem_toArray, List.getElem_cons_succ, List.getElem_cons_zero, List.setIfInBounds_toArray, List.set_cons_zero, List.set_cons_succ]
        first | (refine WkT.skip (m := 1) (k := 10) rfl (by rfl) ?_) | (refine WkT.pure (m := 1) (k := 10) (v := _) rfl (by rfl) (fun wv => by go_simp; try with_reducible rfl) ?_) | (refine WkT.step (m := 1) (k := 10) (v := _) rfl (by rfl) (by kernel_rfl) (fun wv hS => by obtain ⟨s0, s1, s2, s3, s4, s5, s6, s7, s8, s9, s10⟩ := hS; go_simp; try with_reducible rfl) ?_)
        try simp only [Act.put, List.getElem_toArray, List.getElem_cons_succ, List.getElem_cons_zero, List.setIfInBounds_toArray, List.set_cons_zero, List.set_cons_succ]
        first | (refine WkT.skip (m := 0) (k := 11) rfl (by rfl) ?_) | (refine WkT.pure (m := 0) (k := 11) (v := _) rfl (by rfl) (fun wv => by go_simp; try with_reducible rfl) ?_) | (refine WkT.step (m := 0) (k := 11) (v := _) rfl (by rfl) (by kernel_rfl) (fun wv hS => by obtain ⟨s0, s1, s2, s3, s4, s5, s6, s7, s8, s9, s10⟩ := hS; go_simp; try with_reducible rfl) ?_)
        try simp only [Act.put, List.getElem_toArray, List.getElem_cons_succ, List.getElem_cons_zero, List.setIfInBounds_toArray, List.set_cons_zero, List.set_cons_succ]
        refine WkT.done fun wE hE => ?_
        clear x0 x1 x2 x3 x4 y0 y1 y2 y3 y4
        obtain ⟨mE, x0, x1, x2, x3, x4, y0, y1, y2, y3, y4⟩ := hE
        simp only [List.drop_succ_cons, List.drop_zero]
        have fx0' := (mE.frozen (b := b) (o := off + k * 5) hbr (.inr (Nat.zero_le _))).trans fx0
        have fx1' := (mE.frozen (b := b) (o := off + k * 5 + 1) hbr (.inr (Nat.zero_le _))).trans fx1
        have fx2' := (mE.frozen (b := b) (o := off + k * 5 + 2) hbr (.inr (Nat.zero_le _))).trans fx2
        have fx3' := (mE.frozen (b := b) (o := off + k * 5 + 3) hbr (.inr (Nat.zero_le _))).trans fx3
        have fx4' := (mE.frozen (b := b) (o := off + k * 5 + 4) hbr (.inr (Nat.zero_le _))).trans fx4
        have fy0' := (mE.frozen (b := b) (o := off + m * 5) hbr (.inr (Nat.zero_le _))).trans fy0
        have fy1' := (mE.frozen (b := b) (o := off + m * 5 + 1) hbr (.inr (Nat.zero_le _))).trans fy1
        have fy2' := (mE.frozen (b := b) (o := off + m * 5 + 2) hbr (.inr (Nat.zero_le _))).trans fy2
        have fy3' := (mE.frozen (b := b) (o := off + m * 5 + 3) hbr (.inr (Nat.zero_le _))).trans fy3
        have fy4' := (mE.frozen (b := b) (o := off + m * 5 + 4) hbr (.inr (Nat.zero_le _))).trans fy4
        have hCE := hC.mk mE (.inr (Nat.zero_le _))
        have hME := hM.trans (mE.wide (.inl (Nat.le_refl _)))
        have hC2 := ((((((((((hCE.put (o := off + k * 5) (q := k * 5 + 0) (.int .i64 y.nd) (by omega)).put (o := off + k * 5 + 1) (q := k * 5 + 1) (.int .i64 y.ing) (by omega)).put (o := off + k * 5 + 2) (q := k * 5 + 2) (.int .i64 y.eg) (by omega)).put (o := off + k * 5 + 3) (q := k * 5 + 3) (.int .i64 y.exp) (by omega)).put (o := off + k * 5 + 4) (q := k * 5 + 4) (.int .i64 y.mac) (by omega)).put (o := off + m * 5) (q := m * 5 + 0) (.int .i64 x.nd) (by omega)).put (o := off + m * 5 + 1) (q := m * 5 + 1) (.int .i64 x.ing) (by omega)).put (o := off + m * 5 + 2) (q := m * 5 + 2) (.int .i64 x.eg) (by omega)).put (o := off + m * 5 + 3) (q := m * 5 + 3) (.int .i64 x.exp) (by omega)).put (o := off + m * 5 + 4) (q := m * 5 + 4) (.int .i64 x.mac) (by omega))
        have hM2 := ((((((((((hME.putR ⟨b, off + k * 5, none⟩ (.int .i64 y.nd) hl hh).putR ⟨b, off + k * 5 + 1, none⟩ (.int .i64 y.ing) hl hh).putR ⟨b, off + k * 5 + 2, none⟩ (.int .i64 y.eg) hl hh).putR ⟨b, off + k * 5 + 3, none⟩ (.int .i64 y.exp) hl hh).putR ⟨b, off + k * 5 + 4, none⟩ (.int .i64 y.mac) hl hh).putR ⟨b, off + m * 5, none⟩ (.int .i64 x.nd) hl hh).putR ⟨b, off + m * 5 + 1, none⟩ (.int .i64 x.ing) hl hh).putR ⟨b, off + m * 5 + 2, none⟩ (.int .i64 x.eg) hl hh).putR ⟨b, off + m * 5 + 3, none⟩ (.int .i64 x.exp) hl hh).putR ⟨b, off + m * 5 + 4, none⟩ (.int .i64 x.mac) hl hh)
        go_wp2_with fail
        try simp only [noPan]
        try (go_wp2_with fail)
        have hC3 : Cl ((((((((((wE.setCell ⟨b, off + k * 5, none⟩ (.int .i64 y.nd)).setCell ⟨b, off + k * 5 + 1, none⟩ (.int .i64 y.ing)).setCell ⟨b, off + k * 5 + 2, none⟩ (.int .i64 y.eg)).setCell ⟨b, off + k * 5 + 3, none⟩ (.int .i64 y.exp)).setCell ⟨b, off + k * 5 + 4, none⟩ (.int .i64 y.mac)).setCell ⟨b, off + m * 5, none⟩ (.int .i64 x.nd)).setCell ⟨b, off + m * 5 + 1, none⟩ (.int .i64 x.ing)).setCell ⟨b, off + m * 5 + 2, none⟩ (.int .i64 x.eg)).setCell ⟨b, off + m * 5 + 3, none⟩ (.int .i64 x.exp)).setCell ⟨b, off + m * 5 + 4, none⟩ (.int .i64 x.mac)) b off (n * 5) (flat 5 THop.cell (swpHop zs n (k + 1))) := by
          refine hC2.congr ?_
          rw [swpHop_next zs hm.out hkm, ← hx.out, ← hy.out]
          refine flat_congr (by decide) fun i hi r hr => ?_
          by_cases e1 : i = m
          · subst e1
            rw [getD_set_at (by simp [swpHop]; omega)]
            match r, hr with
            | 0, _ => rw [if_neg (by omega)]; rw [if_neg (by omega)]; rw [if_neg (by omega)]; rw [if_neg (by omega)]; rw [if_pos rfl]; rfl
            | 1, _ => rw [if_neg (by omega)]; rw [if_neg (by omega)]; rw [if_neg (by omega)]; rw [if_pos rfl]; rfl
            | 2, _ => rw [if_neg (by omega)]; rw [if_neg (by omega)]; rw [if_pos rfl]; rfl
            | 3, _ => rw [if_neg (by omega)]; rw [if_pos rfl]; rfl
            | 4, _ => rw [if_pos rfl]; rfl
          · rw [getD_set_off e1]
            by_cases e2 : i = k
            · subst e2
              rw [getD_set_at (by simp [swpHop]; omega)]
              match r, hr with
              | 0, _ => rw [if_neg (by omega)]; rw [if_neg (by omega)]; rw [if_neg (by omega)]; rw [if_neg (by omega)]; rw [if_neg (by omega)]; rw [if_neg (by omega)]; rw [if_neg (by omega)]; rw [if_neg (by omega)]; rw [if_neg (by omega)]; rw [if_pos rfl]; rfl
              | 1, _ => rw [if_neg (by omega)]; rw [if_neg (by omega)]; rw [if_neg (by omega)]; rw [if_neg (by omega)]; rw [if_neg (by omega)]; rw [if_neg (by omega)]; rw [if_neg (by omega)]; rw [if_neg (by omega)]; rw [if_pos rfl]; rfl
              | 2, _ => rw [if_neg (by omega)]; rw [if_neg (by omega)]; rw [if_neg (by omega)]; rw [if_neg (by omega)]; rw [if_neg (by omega)]; rw [if_neg (by omega)]; rw [if_neg (by omega)]; rw [if_pos rfl]; rfl
              | 3, _ => rw [if_neg (by omega)]; rw [if_neg (by omega)]; rw [if_neg (by omega)]; rw [if_neg (by omega)]; rw [if_neg (by omega)]; rw [if_neg (by omega)]; rw [if_pos rfl]; rfl
              | 4, _ => rw [if_neg (by omega)]; rw [if_neg (by omega)]; rw [if_neg (by omega)]; rw [if_neg (by omega)]; rw [if_neg (by omega)]; rw [if_pos rfl]; rfl
            · rw [getD_set_off e2]
              rw [if_neg (by omega)]; rw [if_neg (by omega)]; rw [if_neg (by omega)]; rw [if_neg (by omega)]; rw [if_neg (by omega)]; rw [if_neg (by omega)]; rw [if_neg (by omega)]; rw [if_neg (by omega)]; rw [if_neg (by omega)]; rw [if_neg (by omega)]; exact flat_at _ i r hr
        clear hC2
        go_roundw
        case rel => exact ⟨k + 1, by omega, by go_num, congrArg (Value.int .i64) (by have := hm.out; omega), hC3, hM2⟩
        case measure => simp [intOf]; have := hm.out; omega
      · have i5 : ¬ ((k : Int) < (n : Int) - 1 - (k : Int)) := by omega
        go_wp2_with fail
        refine bodyPost_end (results_none rfl _ _ _) rfl ?_
        exact ⟨⟨_, rfl⟩, by rw [← swpHop_all (k := k) zs (show n ≤ 2 * k + 1 by omega)]; exact ((OwnR.of_cl (by simp [swpHop]) hC).wide hl hh), hM⟩

end Go.Proofs.Ytbkbkpnpllemfaa
