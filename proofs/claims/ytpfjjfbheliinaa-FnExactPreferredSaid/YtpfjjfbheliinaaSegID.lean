
/- SegmentID of both sides. -/
import Derived.Test.YtpfjjfbheliinaaStat
import Derived.Test.YtpfjjfbheliinaaCSegment
import Derived.Test.YtpfjjfbheliinaaDig
import Derived.Test.YtpfjjfbheliinaaRet
namespace Go.Proofs.Ytpfjjfbheliinaa
open Go.ChangeShapes Go.WideShapes Go.ChangeAt Go.RowKit
set_option linter.unusedVariables false
def hop4 (x : THop) : List Int := [x.nd, x.ing, x.eg, x.exp]
def hops4 (hs : List THop) : Nat → List Int
  | 0 => []
  | k + 1 => hops4 hs k ++ hop4 (hs.getD k default)
theorem hops4_len (hs : List THop) : ∀ k, (hops4 hs k).length = 4 * k
  | 0 => rfl
  | k + 1 => by rw [hops4, List.length_append, hops4_len hs k]; simp [hop4]; omega
def sidL (x0 x1 : Int) (hs : List THop) (k : Nat) : List Int := [x0, x1] ++ hops4 hs k
theorem sidL_len (x0 x1 : Int) (hs : List THop) (k : Nat) : (sidL x0 x1 hs k).length = 2 + 4 * k := by simp [sidL, hops4_len]; omega
theorem hops4_fits {hs : List THop} {n : Nat} (hl : hs.length = n) (hf : ∀ y ∈ hs, THop.fits y) : ∀ k, k ≤ n → ∀ z ∈ hops4 hs k, (Lit.int .i64 z).wf = true
  | 0, _, z, hz => by cases hz
  | k + 1, hk, z, hz => by
    rw [hops4, List.mem_append] at hz
    rcases hz with hz | hz
    · exact hops4_fits hl hf k (by omega) z hz
    · have hm : hs.getD k default ∈ hs := by
        rw [List.getD_eq_getElem?_getD, List.getElem?_eq_getElem (by omega)]
        exact List.getElem_mem _
      have h := hf _ hm
      simp only [hop4, List.mem_cons, List.not_mem_nil, or_false] at hz
      rcases hz with rfl | rfl | rfl | rfl
      · exact h.1
      · exact h.2.1
      · exact h.2.2.1
      · exact h.2.2.2.1
theorem sidL_fits {x0 x1 : Int} (h0 : (Lit.int .i64 x0).wf = true) (h1 : (Lit.int .i64 x1).wf = true) {hs : List THop} {n : Nat} (hl : hs.length = n) (hf : ∀ y ∈ hs, THop.fits y) : ∀ z ∈ sidL x0 x1 hs n, (Lit.int .i64 z).wf = true := by
  intro z hz
  unfold sidL at hz
  rw [List.mem_append] at hz
  rcases hz with hz | hz
  · simp only [List.mem_cons, List.not_mem_nil, or_false] at hz
    rcases hz with rfl | rfl <;> assumption
  · exact hops4_fits hl hf n (Nat.le_refl _) z hz
def segIdV (x0 x1 : Int) (hs : List THop) (n : Nat) : Int := digN (sidL x0 x1 hs n) (2 + 4 * n)

set_option maxRecDepth 100000 in
set_option maxHeartbeats 4000000 in
theorem specSegID (x0 x1 : Int) (a : Option Addr) (n c B : Nat) (hs : List THop) (w : World) (h : HasHop w B a n hs) (hB : B ≤ w.heap.size) (hn : n ≤ 1048576) (hf0 : (Lit.int .i64 x0).wf = true) (hf1 : (Lit.int .i64 x1).wf = true) (hf : ∀ y ∈ hs, THop.fits y) :
    Calls Try.prog 60 #[.agg #[.int .i64 x0, .int .i64 x1, .slice a n c]] w fun e w' => e = .returned (.int .i64 (segIdV x0 x1 hs n)) ∧ Mk0 w w' := by
  have M0 := Mk.alloc w (Obj.cells #[Value.int .i64 x0, Value.int .i64 x1, Value.slice a n c] 31)
  have HF := Lib.hid (sidL_fits hf0 hf1 h.1 hf)
  clear hf
  obtain ⟨i0, hi0, hz0, hz1, hz2⟩ := info_parts infoI64
  go_enter Try.func60, Try.ntmps60
  go_wp2_with fail
  have hl0 := own_lit (w.alloc (Obj.cells #[Value.int .i64 x0, Value.int .i64 x1, Value.slice a n c] 31)) 3 ([x0, x1].map (.int .i64)) (by simp)
  have ML := Mk.alloc (w.alloc (Obj.cells #[Value.int .i64 x0, Value.int .i64 x1, Value.slice a n c] 31)) (.cells #[.int .i64 x0, .int .i64 x1] 3)
  go_loopw [3, 4] (fun v i wr => ∃ k : Nat, k ≤ n ∧ i = .int .i64 k ∧ wr.ownsRow (w.alloc (Obj.cells #[Value.int .i64 x0, Value.int .i64 x1, Value.slice a n c] 31)).heap.size 3 1 v (2 + 4 * k) ((sidL x0 x1 hs k).map (.int .i64)) ∧ Mk0 (w.alloc (Obj.cells #[Value.int .i64 x0, Value.int .i64 x1, Value.slice a n c] 31)) wr) (fun _ i _ => n - (intOf i).toNat)
  case atStart => exact ⟨0, Nat.zero_le _, rfl, by simpa [sidL, hops4] using hl0, ML⟩
  case round =>
    clear hl0 ML
    obtain ⟨k, hk, rfl, hown, hM⟩ := hrel
    have hM' := M0.trans hM
    have k2 : (w.alloc (Obj.cells #[Value.int .i64 x0, Value.int .i64 x1, Value.slice a n c] 31)).cell? ⟨w.heap.size, 2, none⟩ = some (.slice a n c) := by simp [go_sem]
    replace k2 := hM.cellAt k2
    have y2 := World.block_lt_of_cell? _ _ k2
    simp only at y2
    by_cases hlt : k < n
    · obtain ⟨b, off, x, rfl, hb, hx, d0, d1, d2, d3, d4⟩ := HasHop.at _ _ _ _ _ _ (h.mk hM' hB (.inr (Nat.le_refl _))) hlt
      have hbr := World.block_lt_of_cell? _ _ d0
      simp only at hbr
      have HS := Lib.hid (show sidL x0 x1 hs (k + 1) = sidL x0 x1 hs k ++ [x.nd, x.ing, x.eg, x.exp] by unfold sidL; rw [hops4, ← hx.out, List.append_assoc]; rfl)
      have MX := Mk.alloc wr (Obj.cells #[Value.int .i64 x.nd, Value.int .i64 x.ing, Value.int .i64 x.eg, Value.int .i64 x.exp, Value.int .i64 x.mac] 145)
      have MY := MX.new (.cells #[.int .i64 x.nd, .int .i64 x.ing, .int .i64 x.eg, .int .i64 x.exp] 3)
      have hn1 := lit_has (wr.alloc (Obj.cells #[Value.int .i64 x.nd, Value.int .i64 x.ing, Value.int .i64 x.eg, Value.int .i64 x.exp, Value.int .i64 x.mac] 145)) 3 [x.nd, x.ing, x.eg, x.exp] 4 rfl
      rw [World.size_alloc wr] at hn1
      have ho3 := own_kept hown MY
      have hlo := (hM.trans MY).size
      go_wp2_with (at_builtin; refine wpList_app rfl (.tmp 23) (.tmp 32) 49 rfl (w.alloc (Obj.cells #[Value.int .i64 x0, Value.int .i64 x1, Value.slice (some ⟨b, off, none⟩) n c] 31)).heap.size 3 i0 Try.underlying49 hi0 hz0 hz1 (by rw [hz2]; decide) _ (sidL x0 x1 hs k) (2 + 4 * k) rfl ho3 _ 4 4 [x.nd, x.ing, x.eg, x.exp] rfl (fun h => by cases h) hn1 (by omega) hlo ?_; intro v2 w2 hown2 hgr2 _)
      have M2 := (hM.trans MY).app hgr2 (fun g hg => (ho3.lt g hg).1)
      go_wp2_with fail
      go_roundw
      case rel => exact ⟨k + 1, by omega, by go_num, by rw [HS.out]; exact hown2, M2⟩
      case measure => simp [intOf]; omega
    · obtain rfl : k = n := by omega
      obtain ⟨A, cc, rfl, _⟩ := ownsRow_slice hown
      have HO := Lib.hid (ownsRow_own hown).has
      clear hown
      go_wp2_with fail
      refine (specDigest _ _ _ _ (sidL x0 x1 hs k) _ HO.out HF.out (by omega)).mono ?_
      rintro e w2 ⟨rfl, rfl⟩
      go_wp2_with fail
      go_ret
      exact ⟨rfl, hM'⟩

set_option maxRecDepth 100000 in
set_option maxHeartbeats 4000000 in
theorem implSegID (x0 x1 : Int) (a : Option Addr) (n c B : Nat) (hs : List THop) (w : World) (h : HasHop w B a n hs) (hB : B ≤ w.heap.size) (hn : n ≤ 1048576) (hf0 : (Lit.int .i64 x0).wf = true) (hf1 : (Lit.int .i64 x1).wf = true) (hf : ∀ y ∈ hs, THop.fits y) :
    Calls Try.prog 62 #[.agg #[.int .i64 x0, .int .i64 x1, .slice a n c]] w fun e w' => e = .returned (.int .i64 (segIdV x0 x1 hs n)) ∧ Mk0 w w' := by
  have M0 := Mk.alloc w (Obj.cells #[Value.int .i64 x0, Value.int .i64 x1, Value.slice a n c] 31)
  have HF := Lib.hid (sidL_fits hf0 hf1 h.1 hf)
  clear hf
  obtain ⟨i0, hi0, hz0, hz1, hz2⟩ := info_parts infoI64
  go_enter Try.func62, Try.ntmps62
  go_wp2_with fail
  have hl0 := own_lit (w.alloc (Obj.cells #[Value.int .i64 x0, Value.int .i64 x1, Value.slice a n c] 31)) 3 ([x0, x1].map (.int .i64)) (by simp)
  have ML := Mk.alloc (w.alloc (Obj.cells #[Value.int .i64 x0, Value.int .i64 x1, Value.slice a n c] 31)) (.cells #[.int .i64 x0, .int .i64 x1] 3)
  go_loopw [3, 14] (fun v i wr => ∃ k : Nat, k ≤ n ∧ i = .int .i64 k ∧ wr.ownsRow (w.alloc (Obj.cells #[Value.int .i64 x0, Value.int .i64 x1, Value.slice a n c] 31)).heap.size 3 1 v (2 + 4 * k) ((sidL x0 x1 hs k).map (.int .i64)) ∧ Mk0 (w.alloc (Obj.cells #[Value.int .i64 x0, Value.int .i64 x1, Value.slice a n c] 31)) wr) (fun _ i _ => n - (intOf i).toNat)
  case atStart => exact ⟨0, Nat.zero_le _, rfl, by simpa [sidL, hops4] using hl0, ML⟩
  case round =>
    clear hl0 ML
    obtain ⟨k, hk, rfl, hown, hM⟩ := hrel
    have hM' := M0.trans hM
    have k2 : (w.alloc (Obj.cells #[Value.int .i64 x0, Value.int .i64 x1, Value.slice a n c] 31)).cell? ⟨w.heap.size, 2, none⟩ = some (.slice a n c) := by simp [go_sem]
    replace k2 := hM.cellAt k2
    have y2 := World.block_lt_of_cell? _ _ k2
    simp only at y2
    by_cases hlt : k < n
    · obtain ⟨b, off, x, rfl, hb, hx, d0, d1, d2, d3, d4⟩ := HasHop.at _ _ _ _ _ _ (h.mk hM' hB (.inr (Nat.le_refl _))) hlt
      have hbr := World.block_lt_of_cell? _ _ d0
      simp only at hbr
      have HS := Lib.hid (show sidL x0 x1 hs (k + 1) = sidL x0 x1 hs k ++ [x.nd, x.ing, x.eg, x.exp] by unfold sidL; rw [hops4, ← hx.out, List.append_assoc]; rfl)
      have MX := Mk.alloc wr (Obj.cells #[Value.int .i64 x.nd, Value.int .i64 x.ing, Value.int .i64 x.eg, Value.int .i64 x.exp, Value.int .i64 x.mac] 145)
      have hM2 := hM.trans MX
      have ho3 := own_kept hown MX
      go_wp2_with fail
      refine (hopStat x _).mono ?_
      rintro e w1 ⟨rfl, hs1, m1⟩
      have ho4 := own_kept ho3 m1
      have hM3 := hM2.trans m1
      have hlo := hM3.size
      have hh1 := (ownsRow_own hs1).has
      simp only [World.size_alloc] at hh1
      clear ho3 hs1 d0 d1 d2 d3 d4
      go_wp2_with (at_builtin; refine wpList_app rfl (.tmp 18) (.tmp 20) 49 rfl (w.alloc (Obj.cells #[Value.int .i64 x0, Value.int .i64 x1, Value.slice (some ⟨b, off, none⟩) n c] 31)).heap.size 3 i0 Try.underlying49 hi0 hz0 hz1 (by rw [hz2]; decide) _ (sidL x0 x1 hs k) (2 + 4 * k) rfl ho4 _ 4 4 [x.nd, x.ing, x.eg, x.exp] rfl (fun h => by cases h) hh1 (by omega) hlo ?_; intro v2 w2 hown2 hgr2 _)
      have M2 := hM3.app hgr2 (fun g hg => (ho4.lt g hg).1)
      go_wp2_with fail
      go_roundw
      case rel => exact ⟨k + 1, by omega, by go_num, by rw [HS.out]; exact hown2, M2⟩
      case measure => simp [intOf]; omega
    · obtain rfl : k = n := by omega
      obtain ⟨A, cc, rfl, _⟩ := ownsRow_slice hown
      have HO := Lib.hid (ownsRow_own hown).has
      clear hown
      go_wp2_with fail
      refine (implDigest _ _ _ _ (sidL x0 x1 hs k) _ HO.out HF.out (by omega)).mono ?_
      rintro e w2 ⟨rfl, rfl⟩
      go_wp2_with fail
      go_ret
      exact ⟨rfl, hM'⟩

end Go.Proofs.Ytpfjjfbheliinaa
