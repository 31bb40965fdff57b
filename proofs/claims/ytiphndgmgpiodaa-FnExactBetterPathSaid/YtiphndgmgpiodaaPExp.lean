
/- PathExpiry of both sides. -/
import Derived.Test.YtiphndgmgpiodaaHopsOf
import Derived.Test.YtiphndgmgpiodaaExpiry
namespace Go.Proofs.Ytiphndgmgpiodaa
open Go.ChangeShapes Go.WideShapes Go.ChangeAt Go.RowKit
set_option linter.unusedVariables false
theorem catH_at (ps : List TPathPart) {k j : Nat} (hj : j < sePathPart (ps.getD k default)) : ∀ m, k < m → (catH ps m).getD (sumTo sePathPart ps k + j) default = (ps.getD k default).hops.getD j default
  | 0, h => absurd h (by omega)
  | m + 1, h => by
    have hl := catH_len ps m
    have hj' : j < (ps.getD k default).hops.length := hj
    rw [catH]
    by_cases e : k = m
    · subst e
      rw [List.getD_eq_getElem?_getD, List.getElem?_append_right (by omega), hl, Nat.add_sub_cancel_left, ← List.getD_eq_getElem?_getD]
    · have hs := sumTo_at sePathPart ps (show k < m by omega)
      have ih := catH_at ps hj m (by omega)
      rw [List.getD_eq_getElem?_getD, List.getElem?_append_left (by rw [hl]; omega), ← List.getD_eq_getElem?_getD]
      exact ih
theorem segExp_first {zs : List THop} {x : THop} (hx : x = zs.getD 0 default) : segExp zs 1 = x.exp := by
  unfold segExp; rw [if_neg (by omega), expUp_one, ← hx]
theorem segExp_next {zs : List THop} {t : Nat} {x : THop} (ht : 0 < t) (hx : x = zs.getD t default) : segExp zs (t + 1) = minV (segExp zs t) x.exp := by
  unfold segExp; rw [if_neg (by omega), if_neg (by omega), expUp, ← hx]
def pathExp (ps : List TPathPart) (n : Nat) : Int := segExp (catH ps n) (sumTo sePathPart ps n)

set_option maxRecDepth 100000 in
set_option maxHeartbeats 4000000 in
theorem implPExp (a : Option Addr) (n c B : Nat) (ps : List TPathPart) (w : World) (h : HasPathPart w B a n ps) (hB : B ≤ w.heap.size) (hn : szPathPart ps n ≤ 1048576) :
    Calls Try.prog 122 #[.agg #[.slice a n c]] w fun e w' => e = .returned (.int .i64 (pathExp ps n)) ∧ Mk0 w w' := by
  have M0 := Mk.alloc w (Obj.cells #[Value.slice a n c] 75)
  have hN : sumTo sePathPart ps n ≤ 1048576 := by unfold szPathPart at hn; omega
  go_enter Try.func122, Try.ntmps122
  go_wp2_with fail
  refine (hopsOf a n c B ps _ (h.mk M0 hB (.inr (Nat.le_refl _))) (Nat.le_trans hB M0.size) hn).mono ?_
  rintro e w2 ⟨A, cc, rfl, hh, m2⟩
  go_wp2_with fail
  refine (hopsExpiry A _ cc _ (catH ps n) _ hh (Nat.le_refl _) hN).mono ?_
  rintro e w3 ⟨rfl, m3⟩
  go_wp2_with fail
  go_ret
  exact ⟨rfl, (M0.trans m2).trans m3⟩

set_option maxRecDepth 100000 in
set_option maxHeartbeats 4000000 in
theorem specPExp (a : Option Addr) (n c B : Nat) (ps : List TPathPart) (w : World) (h : HasPathPart w B a n ps) (hB : B ≤ w.heap.size) (hn : szPathPart ps n ≤ 1048576) :
    Calls Try.prog 80 #[.agg #[.slice a n c]] w fun e w' => e = .returned (.int .i64 (pathExp ps n)) ∧ Mk0 w w' := by
  have hn0 : n ≤ 1048576 := Nat.le_trans (szPathPart_n ps n) hn
  have M0 := Mk.alloc w (Obj.cells #[Value.slice a n c] 75)
  go_enter Try.func80, Try.ntmps80
  go_wp2_with fail
  go_loopw [3, 4, 5] (fun v b i wr => ∃ (k : Nat) (z : Int) (fl : Bool), k ≤ n ∧ i = .int .i64 k ∧ v = .int .i64 z ∧ b = .bool fl ∧ Hid (z = segExp (catH ps n) (sumTo sePathPart ps k)) ∧ Hid (fl = decide (0 < sumTo sePathPart ps k)) ∧ Mk0 (w.alloc (Obj.cells #[Value.slice a n c] 75)) wr) (fun _ _ i _ => n - (intOf i).toNat)
  case atStart => exact ⟨0, 0, false, Nat.zero_le _, rfl, rfl, rfl, rfl, rfl, Mk.refl _ _ _⟩
  case round =>
    obtain ⟨k, z, fl, hk, rfl, rfl, rfl, hz, hfl, hM⟩ := hrel
    have hM' := M0.trans hM
    have k0 : (w.alloc (Obj.cells #[Value.slice a n c] 75)).cell? ⟨w.heap.size, 0, none⟩ = some (.slice a n c) := by simp [go_sem]
    replace k0 := hM.cellAt k0
    by_cases hlt : k < n
    · obtain ⟨b, off, x, rfl, hb, hx, a3, n3, c3, d0, d1, d2, d3, r3, m3, t3, z3⟩ := HasPathPart.at _ _ _ _ _ _ (h.mk hM' hB (.inr (Nat.le_refl _))) hlt
      have hse : sePathPart (ps.getD k default) = n3 := by rw [← hx.out]; unfold sePathPart; exact r3.1
      have HT := Lib.hid (show sumTo sePathPart ps (k + 1) = sumTo sePathPart ps k + n3 by rw [sumTo, hse])
      have hn3 : n3 ≤ 1048576 := by have HS := szPathPart_at ps hlt; rw [hse] at HS; omega
      have HSE := Lib.hid hse
      clear hse
      have hbw := Nat.lt_of_lt_of_le hb (Nat.le_trans hB hM'.size)
      go_wp2_with fail
      go_loopw [3, 4, 6] (fun v b i wq => ∃ (j : Nat) (y : Int) (fm : Bool), j ≤ n3 ∧ i = .int .i64 j ∧ v = .int .i64 y ∧ b = .bool fm ∧ Hid (y = segExp (catH ps n) (sumTo sePathPart ps k + j)) ∧ Hid (fm = decide (0 < sumTo sePathPart ps k + j)) ∧ wq = wr) (fun _ _ i _ => n3 - (intOf i).toNat)
      case atStart => exact ⟨0, z, fl, Nat.zero_le _, rfl, rfl, rfl, hz, hfl, rfl⟩
      case round =>
        obtain ⟨j, y, fm, hj, rfl, rfl, rfl, hy, hfm, rfl⟩ := hrel
        by_cases hjt : j < n3
        · obtain ⟨b2, off2, q, rfl, hb2, hq, e0, e1, e2, e3, e4⟩ := HasHop.at _ _ _ _ _ _ r3 hjt
          have hb2w := Nat.lt_of_lt_of_le hb2 (Nat.le_trans hB hM'.size)
          have HQ := Lib.hid (show q = (catH ps n).getD (sumTo sePathPart ps k + j) default by rw [catH_at ps (by rw [HSE.out]; exact hjt) n hlt, ← hx.out]; exact hq.out)
          cases fm
          · have ht : sumTo sePathPart ps k + j = 0 := by
              have := hfm.out
              have h2 : ¬ (0 < sumTo sePathPart ps k + j) := by intro h3; rw [decide_eq_true h3] at this; cases this
              omega
            have HE := Lib.hid (show q.exp = segExp (catH ps n) (sumTo sePathPart ps k + (j + 1)) by rw [← Nat.add_assoc, ht]; exact (segExp_first (by rw [HQ.out, ht])).symm)
            clear ht
            go_wp2_with fail
            go_roundw
            case rel => exact ⟨j + 1, q.exp, true, by omega, by go_num, rfl, rfl, HE.out, (show true = decide (0 < sumTo sePathPart ps k + (j + 1)) from (decide_eq_true (by omega)).symm), trivial⟩
            case measure => simp [intOf]; omega
          · have ht : 0 < sumTo sePathPart ps k + j := of_decide_eq_true hfm.out.symm
            have HN := Lib.hid (show segExp (catH ps n) (sumTo sePathPart ps k + (j + 1)) = minV y q.exp by rw [← Nat.add_assoc, segExp_next ht HQ.out, hy.out])
            clear ht
            by_cases cl : q.exp < y
            · have dh : decide (q.exp < y) = true := by simpa using cl
              have HE := Lib.hid (show q.exp = segExp (catH ps n) (sumTo sePathPart ps k + (j + 1)) by rw [HN.out]; exact (if_pos cl).symm)
              go_wp2_with fail
              go_roundw
              case rel => exact ⟨j + 1, q.exp, true, by omega, by go_num, rfl, rfl, HE.out, (show true = decide (0 < sumTo sePathPart ps k + (j + 1)) from (decide_eq_true (by omega)).symm), trivial⟩
              case measure => simp [intOf]; omega
            · have dh : decide (q.exp < y) = false := by simpa using cl
              have HE := Lib.hid (show y = segExp (catH ps n) (sumTo sePathPart ps k + (j + 1)) by rw [HN.out]; exact (if_neg cl).symm)
              have cl' : y ≤ q.exp := by omega
              clear cl
              go_wp2_with fail
              go_roundw
              case rel => exact ⟨j + 1, y, true, by omega, by go_num, rfl, rfl, HE.out, (show true = decide (0 < sumTo sePathPart ps k + (j + 1)) from (decide_eq_true (by omega)).symm), trivial⟩
              case measure => simp [intOf]; omega
        · obtain rfl : j = n3 := by omega
          have HY := Lib.hid (show y = segExp (catH ps n) (sumTo sePathPart ps (k + 1)) by rw [HT.out]; exact hy.out)
          have HF := Lib.hid (show fm = decide (0 < sumTo sePathPart ps (k + 1)) by rw [HT.out]; exact hfm.out)
          go_wp2_with fail
          go_roundw
          case rel => exact ⟨k + 1, y, fm, by omega, by go_num, rfl, rfl, HY.out, HF.out, hM⟩
          case measure => simp [intOf]; omega
    · obtain rfl : k = n := by omega
      go_wp2_with fail
      go_ret
      exact ⟨retI hz.out, hM'⟩
end Go.Proofs.Ytiphndgmgpiodaa
