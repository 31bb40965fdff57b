
/- SignedData of both sides. -/
import Derived.Test.YtiphndgmgpiodaaFields
import Derived.Test.YtiphndgmgpiodaaCSegment
import Derived.Test.YtiphndgmgpiodaaInR
namespace Go.Proofs.Ytiphndgmgpiodaa
open Go.ChangeShapes Go.WideShapes Go.ChangeAt Go.RowKit
set_option linter.unusedVariables false
def sdL (x0 x1 : Int) (q : Nat) (hs : List THop) (k : Nat) : List Int := [x0, x1, (q : Int)] ++ hopsN hs k
theorem sdL_len (x0 x1 : Int) (q : Nat) (hs : List THop) (k : Nat) : (sdL x0 x1 q hs k).length = 3 + 5 * k := by simp [sdL, hopsN_len]; omega
def sdataV (x0 x1 : Int) (hs : List THop) (n : Nat) (i : Int) : List Int := if 0 ≤ i ∧ i ≤ n then sdL x0 x1 i.toNat hs i.toNat else []
theorem sdata_in {x0 x1 : Int} {hs : List THop} {n q : Nat} (h : q ≤ n) : sdataV x0 x1 hs n (q : Int) = sdL x0 x1 q hs q := by
  unfold sdataV; rw [if_pos ⟨by omega, by omega⟩, show ((q : Nat) : Int).toNat = q by omega]
theorem sdata_out {x0 x1 : Int} {hs : List THop} {n : Nat} {i : Int} (h : i < 0 ∨ (n : Int) < i) : sdataV x0 x1 hs n i = [] := if_neg (by omega)
theorem sdata_len (x0 x1 : Int) (hs : List THop) (n : Nat) (i : Int) : (sdataV x0 x1 hs n i).length ≤ 3 + 5 * n := by
  unfold sdataV; split
  · rw [sdL_len]; omega
  · simp

set_option maxRecDepth 100000 in
set_option maxHeartbeats 4000000 in
theorem specSData (x0 x1 : Int) (a : Option Addr) (n c B : Nat) (hs : List THop) (i : Int) (w : World) (h : HasHop w B a n hs) (hB : B ≤ w.heap.size) (hn : n ≤ 1048576) :
    Calls Try.prog 63 #[.agg #[.int .i64 x0, .int .i64 x1, .slice a n c], .int .i64 i] w (OutR .i64 w (sdataV x0 x1 hs n i)) := by
  have M0 := Mk.alloc w (Obj.cells #[Value.int .i64 x0, Value.int .i64 x1, Value.slice a n c] 33)
  obtain ⟨i0, hi0, hz0, hz1, hz2⟩ := info_parts infoI64
  by_cases hi : i < 0 ∨ (n : Int) < i
  · have HR := Lib.hid (sdata_out (x0 := x0) (x1 := x1) (hs := hs) hi)
    have HI := Lib.hid hi
    clear hi
    go_enter Try.func63, Try.ntmps63
    go_wp2_with fail
    refine (specInNo _ _ _ _ (by have := HI.out; omega)).mono ?_
    rintro e w' ⟨rfl, rfl⟩
    go_wp2_with fail
    go_ret
    rw [HR.out]
    exact ⟨_, 0, _, rfl, (fun h => by first | (cases h; done) | rfl), Own.none_ _ _ _, (M0.new _).below0⟩
  · obtain ⟨q, rfl⟩ : ∃ q : Nat, i = (q : Int) := ⟨i.toNat, by omega⟩
    have hq : q ≤ n := by omega
    clear hi
    have HR := Lib.hid (sdata_in (x0 := x0) (x1 := x1) (hs := hs) hq)
    go_enter Try.func63, Try.ntmps63
    go_wp2_with fail
    refine (specInYes _ _ _ _ (by omega) (by omega)).mono ?_
    rintro e w' ⟨rfl, rfl⟩
    go_wp2_with fail
    have hl0 := own_lit (w.alloc (Obj.cells #[Value.int .i64 x0, Value.int .i64 x1, Value.slice a n c] 33)) 3 ([x0, x1, (q : Int)].map (.int .i64)) (by simp)
    have ML := Mk.alloc (w.alloc (Obj.cells #[Value.int .i64 x0, Value.int .i64 x1, Value.slice a n c] 33)) (.cells #[.int .i64 x0, .int .i64 x1, .int .i64 (q : Int)] 3)
    go_loopw [5, 6] (fun v i wr => ∃ k : Nat, k ≤ q ∧ i = .int .i64 k ∧ wr.ownsRow (w.alloc (Obj.cells #[Value.int .i64 x0, Value.int .i64 x1, Value.slice a n c] 33)).heap.size 3 1 v (3 + 5 * k) ((sdL x0 x1 q hs k).map (.int .i64)) ∧ Mk0 (w.alloc (Obj.cells #[Value.int .i64 x0, Value.int .i64 x1, Value.slice a n c] 33)) wr) (fun _ i _ => q - (intOf i).toNat)
    case atStart => exact ⟨0, Nat.zero_le _, rfl, by simpa [sdL, hopsN] using hl0, ML⟩
    case round =>
      clear hl0 ML
      obtain ⟨k, hk, rfl, hown, hM⟩ := hrel
      have hM' := M0.trans hM
      have k2 : (w.alloc (Obj.cells #[Value.int .i64 x0, Value.int .i64 x1, Value.slice a n c] 33)).cell? ⟨w.heap.size, 2, none⟩ = some (.slice a n c) := by simp [go_sem]
      replace k2 := hM.cellAt k2
      have y2 := World.block_lt_of_cell? _ _ k2
      simp only at y2
      by_cases hlt : k < q
      · obtain ⟨b, off, x, rfl, hb, hx, d0, d1, d2, d3, d4⟩ := HasHop.at _ _ _ _ _ _ (h.mk hM' hB (.inr (Nat.le_refl _))) (Nat.lt_of_lt_of_le hlt hq)
        have hbr := World.block_lt_of_cell? _ _ d0
        simp only at hbr
        have HS := Lib.hid (show sdL x0 x1 q hs (k + 1) = sdL x0 x1 q hs k ++ [x.nd, x.ing, x.eg, x.exp, x.mac] by unfold sdL; rw [hopsN, ← hx.out, List.append_assoc]; rfl)
        have MX := Mk.alloc wr (Obj.cells #[Value.int .i64 x.nd, Value.int .i64 x.ing, Value.int .i64 x.eg, Value.int .i64 x.exp, Value.int .i64 x.mac] 24)
        have MY := MX.new (.cells #[.int .i64 x.nd, .int .i64 x.ing, .int .i64 x.eg, .int .i64 x.exp, .int .i64 x.mac] 3)
        have hn1 := lit_has (wr.alloc (Obj.cells #[Value.int .i64 x.nd, Value.int .i64 x.ing, Value.int .i64 x.eg, Value.int .i64 x.exp, Value.int .i64 x.mac] 24)) 3 [x.nd, x.ing, x.eg, x.exp, x.mac] 5 rfl
        rw [World.size_alloc wr] at hn1
        have ho3 := own_kept hown MY
        have hlo := (hM.trans MY).size
        go_wp2_with (at_builtin; refine wpList_app rfl (.tmp 31) (.tmp 42) 46 rfl (w.alloc (Obj.cells #[Value.int .i64 x0, Value.int .i64 x1, Value.slice (some ⟨b, off, none⟩) n c] 33)).heap.size 3 i0 Try.underlying46 hi0 hz0 hz1 (by rw [hz2]; decide) _ (sdL x0 x1 q hs k) (3 + 5 * k) rfl ho3 _ 5 5 [x.nd, x.ing, x.eg, x.exp, x.mac] rfl (fun h => by cases h) hn1 (by omega) hlo ?_; intro v2 w2 hown2 hgr2 _)
        have M2 := (hM.trans MY).app hgr2 (fun g hg => (ho3.lt g hg).1)
        go_wp2_with fail
        go_roundw
        case rel => exact ⟨k + 1, by omega, by go_num, by rw [HS.out]; exact hown2, M2⟩
        case measure => simp [intOf]; omega
      · obtain rfl : k = q := by omega
        have HO := Lib.hid hown
        clear hown
        go_wp2_with fail
        go_ret
        rw [HR.out]
        exact OutR.of (own_low HO.out M0.size) hM'.below0

set_option maxRecDepth 100000 in
set_option maxHeartbeats 4000000 in
theorem implSData (x0 x1 : Int) (a : Option Addr) (n c B : Nat) (hs : List THop) (i : Int) (w : World) (h : HasHop w B a n hs) (hB : B ≤ w.heap.size) (hn : n ≤ 1048576) (hc : n ≤ c) :
    Calls Try.prog 107 #[.agg #[.int .i64 x0, .int .i64 x1, .slice a n c], .int .i64 i] w (OutR .i64 w (sdataV x0 x1 hs n i)) := by
  have M0 := Mk.alloc w (Obj.cells #[Value.int .i64 x0, Value.int .i64 x1, Value.slice a n c] 33)
  obtain ⟨i0, hi0, hz0, hz1, hz2⟩ := info_parts infoI64
  by_cases hi : i < 0 ∨ (n : Int) < i
  · have HR := Lib.hid (sdata_out (x0 := x0) (x1 := x1) (hs := hs) hi)
    have HI := Lib.hid hi
    clear hi
    go_enter Try.func107, Try.ntmps107
    go_wp2_with fail
    refine (implInNo _ _ _ _ (by have := HI.out; omega)).mono ?_
    rintro e w' ⟨rfl, rfl⟩
    go_wp2_with fail
    go_ret
    rw [HR.out]
    exact ⟨_, 0, _, rfl, (fun h => by first | (cases h; done) | rfl), Own.none_ _ _ _, (M0.new _).below0⟩
  · obtain ⟨q, rfl⟩ : ∃ q : Nat, i = (q : Int) := ⟨i.toNat, by omega⟩
    have hq : q ≤ n := by omega
    clear hi
    have HR := Lib.hid (sdata_in (x0 := x0) (x1 := x1) (hs := hs) hq)
    go_enter Try.func107, Try.ntmps107
    go_wp2_with fail
    refine (implInYes _ _ _ _ (by omega) (by omega)).mono ?_
    rintro e w' ⟨rfl, rfl⟩
    go_wp2_with fail
    have hl0 := own_lit (w.alloc (Obj.cells #[Value.int .i64 x0, Value.int .i64 x1, Value.slice a n c] 33)) 3 ([x0, x1, (q : Int)].map (.int .i64)) (by simp)
    have ML := Mk.alloc (w.alloc (Obj.cells #[Value.int .i64 x0, Value.int .i64 x1, Value.slice a n c] 33)) (.cells #[.int .i64 x0, .int .i64 x1, .int .i64 (q : Int)] 3)
    go_loopw [5, 26] (fun v i wr => ∃ k : Nat, k ≤ q ∧ i = .int .i64 k ∧ wr.ownsRow (w.alloc (Obj.cells #[Value.int .i64 x0, Value.int .i64 x1, Value.slice a n c] 33)).heap.size 3 1 v (3 + 5 * k) ((sdL x0 x1 q hs k).map (.int .i64)) ∧ Mk0 (w.alloc (Obj.cells #[Value.int .i64 x0, Value.int .i64 x1, Value.slice a n c] 33)) wr) (fun _ i _ => q - (intOf i).toNat)
    case atStart => exact ⟨0, Nat.zero_le _, rfl, by simpa [sdL, hopsN] using hl0, ML⟩
    case round =>
      clear hl0 ML
      obtain ⟨k, hk, rfl, hown, hM⟩ := hrel
      have hM' := M0.trans hM
      have k2 : (w.alloc (Obj.cells #[Value.int .i64 x0, Value.int .i64 x1, Value.slice a n c] 33)).cell? ⟨w.heap.size, 2, none⟩ = some (.slice a n c) := by simp [go_sem]
      replace k2 := hM.cellAt k2
      have y2 := World.block_lt_of_cell? _ _ k2
      simp only at y2
      by_cases hlt : k < q
      · obtain ⟨b, off, x, rfl, hb, hx, d0, d1, d2, d3, d4⟩ := HasHop.at _ _ _ _ _ _ (h.mk hM' hB (.inr (Nat.le_refl _))) (Nat.lt_of_lt_of_le hlt hq)
        have hbr := World.block_lt_of_cell? _ _ d0
        simp only at hbr
        have HS := Lib.hid (show sdL x0 x1 q hs (k + 1) = sdL x0 x1 q hs k ++ [x.nd, x.ing, x.eg, x.exp, x.mac] by unfold sdL; rw [hopsN, ← hx.out, List.append_assoc]; rfl)
        have MX := Mk.alloc wr (Obj.cells #[Value.int .i64 x.nd, Value.int .i64 x.ing, Value.int .i64 x.eg, Value.int .i64 x.exp, Value.int .i64 x.mac] 24)
        have hM2 := hM.trans MX
        have ho3 := own_kept hown MX
        go_wp2_with fail
        refine (hopFields x _).mono ?_
        rintro e w1 ⟨A1, c1, rfl, hc1, hh1, m1⟩
        have ho4 := own_kept ho3 m1
        have hM3 := hM2.trans m1
        have hlo := hM3.size
        have HC1 := Lib.hid hc1
        clear hc1 ho3 d0 d1 d2 d3 d4
        go_wp2_with (at_builtin; refine wpList_app rfl (.tmp 30) (.tmp 32) 46 rfl (w.alloc (Obj.cells #[Value.int .i64 x0, Value.int .i64 x1, Value.slice (some ⟨b, off, none⟩) n c] 33)).heap.size 3 i0 Try.underlying46 hi0 hz0 hz1 (by rw [hz2]; decide) _ (sdL x0 x1 q hs k) (3 + 5 * k) rfl ho4 A1 5 c1 [x.nd, x.ing, x.eg, x.exp, x.mac] rfl HC1.out hh1 (by omega) hlo ?_; intro v2 w2 hown2 hgr2 _)
        have M2 := hM3.app hgr2 (fun g hg => (ho4.lt g hg).1)
        go_wp2_with fail
        go_roundw
        case rel => exact ⟨k + 1, by omega, by go_num, by rw [HS.out]; exact hown2, M2⟩
        case measure => simp [intOf]; omega
      · obtain rfl : k = q := by omega
        have HO := Lib.hid hown
        clear hown
        go_wp2_with fail
        go_ret
        rw [HR.out]
        exact OutR.of (own_low HO.out M0.size) hM'.below0

end Go.Proofs.Ytiphndgmgpiodaa
