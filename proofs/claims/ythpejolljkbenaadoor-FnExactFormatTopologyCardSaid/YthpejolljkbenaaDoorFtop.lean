
/- FormatTopology of both sides. -/
import Derived.Test.YthpejolljkbenaaDoorJoin
import Derived.Test.YthpejolljkbenaaDoorFlink
namespace Go.Proofs.YthpejolljkbenaaDoor
open Go Go.ChangeShapes Go.WideShapes Go.ChangeAt Go.RowKit
set_option linter.unusedVariables false
def topF (zs : List TAS) (n0 : Nat) (zl : List TLink) (n1 : Nat) (k : Nat) : ByteArray := linkT zs n0 zl n1 (k : Int)
theorem topF_size {zs : List TAS} {n0 : Nat} {zl : List TLink} {n1 : Nat} (hl : zs.length = n0) (hz : ∀ y ∈ zs, TAS.fits y) (hm : zl.length = n1) (hzl : ∀ y ∈ zl, TLink.fits y) (k : Nat) (hk : k < n1) : (topF zs n0 zl n1 k).size ≤ 131 := by
  unfold topF linkT
  rw [if_pos ⟨by omega, by omega⟩]
  obtain ⟨fa, fai, fb, fbi, _⟩ := link_in hm hk hzl rfl
  exact size_app (p := 66) (size_app (p := 65) (ifT_size hl hz (i64_of fa).1 (i64_of fa).2 (i64_of fai).1 (i64_of fai).2) (signT_size _)) (ifT_size hl hz (i64_of fb).1 (i64_of fb).2 (i64_of fbi).1 (i64_of fbi).2)
set_option maxRecDepth 100000 in
set_option maxHeartbeats 4000000 in
theorem specFTop (a0 a1 : Option Addr) (n0 c0 n1 c1 B : Nat) (zs : List TAS) (zl : List TLink) (w : World) (h : HasAS w B a0 n0 zs) (hB : B ≤ w.heap.size) (hn0 : n0 ≤ 1048576) (hz : ∀ y ∈ zs, TAS.fits y) (hl : HasLink w B a1 n1 zl) (hn1 : n1 ≤ 1048576) (hzl : ∀ y ∈ zl, TLink.fits y) :
    Calls Tryd.prog 8 #[.agg #[.slice a0 n0 c0, .slice a1 n1 c1]] w fun e w' => e = .returned (.string (jdF (topF zs n0 zl n1) n1)) ∧ Mk0 w w' := by
  have M0 := Mk.alloc w (Obj.cells #[Value.slice a0 n0 c0, Value.slice a1 n1 c1] 31)
  have k0 : (w.alloc (Obj.cells #[Value.slice a0 n0 c0, Value.slice a1 n1 c1] 31)).cell? ⟨w.heap.size, 0, none⟩ = some (.slice a0 n0 c0) := by simp [go_sem]
  have k1 : (w.alloc (Obj.cells #[Value.slice a0 n0 c0, Value.slice a1 n1 c1] 31)).cell? ⟨w.heap.size, 1, none⟩ = some (.slice a1 n1 c1) := by simp [go_sem]
  obtain ⟨F_, hF⟩ : ∃ F_, Hid (F_ = topF zs n0 zl n1) := ⟨_, Lib.hid rfl⟩
  have HFS : Hid (∀ k, k < n1 → (F_ k).size ≤ 131) := Lib.hid (fun k hk => by rw [hF.out]; exact topF_size h.1 hz hl.1 hzl k hk)
  have HFE : Hid (∀ k : Nat, F_ k = linkT zs n0 zl n1 (k : Int)) := Lib.hid (fun k => by rw [hF.out]; rfl)
  rw [← hF.out]
  have HZ := Lib.hid hz
  have HZL := Lib.hid hzl
  clear hz hzl
  go_enter Tryd.func8, Tryd.ntmps8
  go_wp2_with fail
  generalize w.alloc (Obj.cells #[Value.slice a0 n0 c0, Value.slice a1 n1 c1] 31) = WW at *
  go_loopw [3, 4] (fun t i wr => ∃ k : Nat, k ≤ n1 ∧ i = .int .i64 k ∧ t = .string (joF F_ k) ∧ Mk0 WW wr) (fun _ i _ => n1 - (intOf i).toNat)
  case atStart => exact ⟨0, Nat.zero_le _, rfl, rfl, Mk.refl _ _ _⟩
  case round =>
    obtain ⟨k, hk, rfl, rfl, hM⟩ := hrel
    replace k0 := hM.cellAt k0
    replace k1 := hM.cellAt k1
    have hMW := M0.trans hM
    by_cases hlt : k < n1
    · have i1 : (0 : Int) ≤ (k : Int) := by omega
      have i2 : (k : Int) < (n1 : Int) := by omega
      have hFk := HFS.out k hlt
      obtain ⟨T, hT⟩ : ∃ T, Hid (T = joF F_ k) := ⟨_, Lib.hid rfl⟩
      have hTs : T.size ≤ 900000000 := by
        rw [hT.out]
        have h1 := joF_size HFS.out k hk
        have h2 : (131 + 1) * k ≤ (131 + 1) * 1048576 := Nat.mul_le_mul_left _ (by omega)
        omega
      rw [← hT.out]
      by_cases hk0 : k = 0
      · have HN := Lib.hid (show joF F_ (k + 1) = T ++ F_ k by rw [joF, if_pos hk0, ← hT.out])
        have i3 : (k : Int) ≤ 0 := by omega
        have ad0 := add_ok T (F_ k) hTs hFk (by decide)
        clear hk0
        go_wp2_with fail
        refine (specFLink a0 a1 n0 c0 n1 c1 B zs zl (k : Int) _ (h.mk hMW hB (.inr (Nat.le_refl _))) (Nat.le_trans hB hMW.size) hn0 HZ.out (hl.mk hMW hB (.inr (Nat.le_refl _))) hn1 HZL.out).mono ?_
        rw [← HFE.out k]
        rintro e w3 ⟨rfl, m3⟩
        go_wp2_with fail
        go_roundw
        case rel => exact ⟨k + 1, by omega, by go_num, by rw [HN.out], hM.trans m3⟩
        case measure => simp [intOf]; omega
      · have HN := Lib.hid (show joF F_ (k + 1) = T ++ ⟨#[32]⟩ ++ F_ k by rw [joF, if_neg hk0, ← hT.out])
        have i3 : (0 : Int) < (k : Int) := by omega
        have ad0 := add_ok T ⟨#[32]⟩ hTs (one1 32) (by decide)
        have ad1 := add_ok (T ++ ⟨#[32]⟩) (F_ k) (size_app hTs (one1 32)) hFk (by decide)
        clear hk0
        go_wp2_with fail
        refine (specFLink a0 a1 n0 c0 n1 c1 B zs zl (k : Int) _ (h.mk hMW hB (.inr (Nat.le_refl _))) (Nat.le_trans hB hMW.size) hn0 HZ.out (hl.mk hMW hB (.inr (Nat.le_refl _))) hn1 HZL.out).mono ?_
        rw [← HFE.out k]
        rintro e w3 ⟨rfl, m3⟩
        go_wp2_with fail
        go_roundw
        case rel => exact ⟨k + 1, by omega, by go_num, by rw [HN.out], hM.trans m3⟩
        case measure => simp [intOf]; omega
    · obtain rfl : k = n1 := by omega
      by_cases hn : k = 0
      · have HR := Lib.hid (show jdF F_ k = ⟨#[45]⟩ by rw [hn]; rfl)
        have i4 : (k : Int) ≤ 0 := by omega
        have i5 : ((k : Int) == 0) = true := by simpa using hn
        clear hn
        go_wp2_with fail
        go_ret
        exact ⟨retT HR.out.symm, hMW⟩
      · have HR := Lib.hid (show jdF F_ k = joF F_ k from if_neg hn)
        have i4 : (0 : Int) < (k : Int) := by omega
        have i5 : ((k : Int) == 0) = false := by simpa using hn
        clear hn
        go_wp2_with fail
        go_ret
        exact ⟨retT HR.out.symm, hMW⟩

set_option maxRecDepth 100000 in
set_option maxHeartbeats 4000000 in
theorem implFTop (a0 a1 : Option Addr) (n0 c0 n1 c1 B : Nat) (zs : List TAS) (zl : List TLink) (w : World) (h : HasAS w B a0 n0 zs) (hB : B ≤ w.heap.size) (hn0 : n0 ≤ 1048576) (hz : ∀ y ∈ zs, TAS.fits y) (hl : HasLink w B a1 n1 zl) (hn1 : n1 ≤ 1048576) (hzl : ∀ y ∈ zl, TLink.fits y) (htab : Lib.TabIs Tryd.prog w "internal/strconv.uint64pow10" .u64 Lib.pow10Tab) :
    Calls Tryd.prog 10 #[.agg #[.slice a0 n0 c0, .slice a1 n1 c1]] w fun e w' => e = .returned (.string (jdF (topF zs n0 zl n1) n1)) ∧ Mk0 w w' := by
  obtain ⟨i0, hi0, hz0, hz1, hz2⟩ := info_parts infoStr
  have M0 := Mk.alloc w (Obj.cells #[Value.slice a0 n0 c0, Value.slice a1 n1 c1] 31)
  have k0 : (w.alloc (Obj.cells #[Value.slice a0 n0 c0, Value.slice a1 n1 c1] 31)).cell? ⟨w.heap.size, 0, none⟩ = some (.slice a0 n0 c0) := by simp [go_sem]
  have k1 : (w.alloc (Obj.cells #[Value.slice a0 n0 c0, Value.slice a1 n1 c1] 31)).cell? ⟨w.heap.size, 1, none⟩ = some (.slice a1 n1 c1) := by simp [go_sem]
  obtain ⟨F_, hF⟩ : ∃ F_, Hid (F_ = topF zs n0 zl n1) := ⟨_, Lib.hid rfl⟩
  have HFS : Hid (∀ k, k < n1 → (F_ k).size ≤ 131) := Lib.hid (fun k hk => by rw [hF.out]; exact topF_size h.1 hz hl.1 hzl k hk)
  have HFE : Hid (∀ k : Nat, F_ k = linkT zs n0 zl n1 (k : Int)) := Lib.hid (fun k => by rw [hF.out]; rfl)
  rw [← hF.out]
  have HZ := Lib.hid hz
  have HZL := Lib.hid hzl
  clear hz hzl
  generalize hWW : w.alloc (Obj.cells #[Value.slice a0 n0 c0, Value.slice a1 n1 c1] 31) = WW at *
  have k0' := (Mk.alloc WW (.cells #[] 9)).cellAt k0
  have k1' := (Mk.alloc WW (.cells #[] 9)).cellAt k1
  go_enter Tryd.func10, Tryd.ntmps10
  go_wp2_with fail
  clear hWW k0' k1'
  have hl0 := own_emptyR WW 9 1
  have ML := Mk.alloc WW (.cells #[] 9)
  go_loopw [3, 9] (fun v i wr => ∃ k : Nat, k ≤ n1 ∧ i = .int .i64 k ∧ wr.ownsRow WW.heap.size 9 1 v k (rowC 1 strC (tl F_ k)) ∧ Mk0 WW wr) (fun _ i _ => n1 - (intOf i).toNat)
  case atStart => exact ⟨0, Nat.zero_le _, rfl, hl0, ML⟩
  case round =>
    clear hl0 ML
    obtain ⟨k, hk, rfl, hown, hM⟩ := hrel
    replace k0 := hM.cellAt k0
    replace k1 := hM.cellAt k1
    have hMW := M0.trans hM
    have hlow := hM.size
    by_cases hlt : k < n1
    · have i1 : (0 : Int) ≤ (k : Int) := by omega
      have i2 : (k : Int) < (n1 : Int) := by omega
      go_wp2_with fail
      refine (implFLink a0 a1 n0 c0 n1 c1 B zs zl (k : Int) _ (h.mk hMW hB (.inr (Nat.le_refl _))) (Nat.le_trans hB hMW.size) hn0 HZ.out (hl.mk hMW hB (.inr (Nat.le_refl _))) hn1 HZL.out (tab_mk htab hMW)).mono ?_
      rw [← HFE.out k]
      rintro e wC ⟨rfl, mC⟩
      have MA := Mk.alloc wC (.cells #[.string (F_ k)] 9)
      have hownX := own_keptR (own_keptR hown mC) MA
      have hhX := hasR_new (cell := strC) (nc := 1) (by decide) wC 9 (F_ k) #[.string (F_ k)] (fun j hj => by match j, hj with | 0, _ => rfl)
      have hloX := Nat.le_trans (Nat.le_trans hlow mC.size) MA.size
      go_wp2_with (at_builtin; refine wpList_appR (by decide) oneStr rfl (.tmp 12) (.tmp 16) 72 rfl WW.heap.size 9 i0 _ Tryd.underlying72 hi0 hz0 rfl hz1 (by rw [hz2]; decide) _ (tl F_ k) k rfl hownX _ 1 1 [F_ k] rfl (fun h => by cases h) hhX (by omega) hloX ?_; intro v2 w4 hown2 hgr2)
      have M4 := ((hM.trans mC).trans MA).appR hgr2 (fun g hg => (hownX.lt g hg).1)
      go_wp2_with fail
      go_roundw
      case rel => exact ⟨k + 1, by omega, by go_num, by rw [tl_succ]; exact hown2, M4⟩
      case measure => simp [intOf]; omega
    · obtain rfl : k = n1 := by omega
      obtain ⟨A, C, rfl, hca, hcb⟩ := ownsRow_sliceR2 hown
      have ho := ownsRow_ownR (by decide) hown
      go_wp2_with fail
      refine (implJoD F_ A k C wr.heap.size _ ho.has (Nat.le_refl _) (by omega) hcb (fun j hj => Nat.le_trans (HFS.out j hj) (by decide))).mono ?_
      rintro e w5 ⟨rfl, m5⟩
      go_wp2_with fail
      go_ret
      exact ⟨rfl, hMW.trans m5⟩

end Go.Proofs.YthpejolljkbenaaDoor
