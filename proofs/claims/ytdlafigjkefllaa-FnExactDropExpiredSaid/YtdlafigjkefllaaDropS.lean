
/- DropExpired of the model. -/
import Derived.Test.YtdlafigjkefllaaDropI
import Derived.Test.YtdlafigjkefllaaWs
namespace Go.Proofs.Ytdlafigjkefllaa
open Go.ChangeShapes Go.WideShapes Go.ChangeAt Go.RowKit
set_option linter.unusedVariables false
set_option maxRecDepth 100000 in
set_option maxHeartbeats 8000000 in
theorem specDrop (a : Option Addr) (n c B : Nat) (zs : List TBeacon) (now : Int) (w : World) (h : HasBeacon w B a n zs) (hB : B ≤ w.heap.size) (hs : szBeacon zs n ≤ 1048576) :
    Calls Try.prog 8 #[.slice a n c, .int .i64 now] w (OutLBeacon (filtUp (fresh now) zs n) w) := by
  have hn : n ≤ 1048576 := Nat.le_trans (szBeacon_n zs n) hs
  obtain ⟨i0, hi0, hz0, hz1, hz2⟩ := info_parts infoRBeacon
  go_enter Try.func8, Try.ntmps8
  go_wp2_with fail
  have hA := own_emptyR w 84 4
  have MA := Mk.alloc w (.cells #[] 84)
  go_loopw [5, 6] (fun v i wr => ∃ (k : Nat) (gs : List HBeacon), k ≤ n ∧ i = .int .i64 (k : Int) ∧ gs.length = (filtUp (fresh now) zs k).length ∧ wr.ownsRow w.heap.size 84 4 v gs.length (rowC 4 HBeacon.cell gs) ∧ Hid (Kids WBeacon wr w.heap.size wr.heap.size (fun g => v.ownBlock = some g) gs.length gs (filtUp (fresh now) zs k)) ∧ Mk0 w wr) (fun _ i _ => n - (intOf i).toNat)
  case atStart => exact ⟨0, [], Nat.zero_le _, rfl, rfl, hA, Lib.hid (Kids.none_ _ _ _ _ _ _ _), MA⟩
  case round =>
    clear hA MA
    obtain ⟨k, gs, hk, rfl, hgl, hown, hK, hM⟩ := hrel
    have hul := filtUp_le (fresh now) zs k
    have hlow := hM.size
    obtain ⟨L, hL⟩ : ∃ L, Hid (L = gs.length) := ⟨_, Lib.hid rfl⟩
    by_cases hlt : k < n
    · obtain ⟨b, off, xb, rfl, hb, hx, a3, n3, c3, d0, d1, d2, d3, hr, p1, p2, p3⟩ := HasBeacon.at _ _ _ _ _ _ (h.mk hM hB (.inr (Nat.le_refl _))) hlt
      have hbd : n3 ≤ 1048576 := by have h1 := szBeacon_at zs hlt; rw [← hx.out] at h1; unfold seBeacon at h1; have h2 : xb.hops.length = n3 := hr.1; omega
      have hn3 := hr.1
      have hbr := World.block_lt_of_cell? _ _ d0
      simp only at hbr
      have i1 : (0 : Int) ≤ (k : Int) := by omega
      have i2 : (k : Int) < (n : Int) := by omega
      have hBr := Nat.le_trans hB hM.size
      have MX := Mk.refl 0 0 wr
      have KP := specExpiry xb.ts xb.beta a3 n3 c3 B xb.hops wr hr hBr hbd
      cases hp : fresh now xb
      all_goals (have hp2 := hp; unfold fresh at hp2; rw [hn3] at hp2)
      · have HE := Lib.hid (show filtUp (fresh now) zs (k + 1) = filtUp (fresh now) zs k by rw [filtUp, ← hx.out, hp]; rfl)
        clear hp
        go_wp2_with fail
        refine KP.mono ?_
        rintro e w2 ⟨rfl, m2⟩
        clear KP
        have hmy := MX.trans m2
        go_wp2_with fail
        go_roundw
        case rel => exact ⟨k + 1, gs, by omega, by go_num, by rw [HE.out]; exact hgl, own_keptR hown hmy, by rw [HE.out]; exact Lib.hid ((hK.out.mk hmy (Nat.le_refl _) (.inr (.inr (Nat.le_refl _)))).wide (Nat.le_refl _) hmy.size), hM.trans hmy⟩
        case measure => simp [intOf]; omega
      · have HE := Lib.hid (show filtUp (fresh now) zs (k + 1) = filtUp (fresh now) zs k ++ [xb] by rw [filtUp, ← hx.out, hp]; rfl)
        clear hp
        go_wp2_with fail
        refine KP.mono ?_
        rintro e w2 ⟨rfl, m2⟩
        clear KP
        have hmy := MX.trans m2
        obtain ⟨AV, CV, hv, hcav, hcbv⟩ := ownsRow_sliceR2 hown
        rw [← hL.out] at hv
        subst hv
        replace d0 := m2.cellAt d0
        replace d1 := m2.cellAt d1
        replace d2 := m2.cellAt d2
        replace d3 := m2.cellAt d3
        have hb2 := World.block_lt_of_cell? _ _ d0
        simp only at hb2
        rw [← hL.out] at hown
        go_wp2_with fail
        refine wp_region_wks (fun w' => Mk0 w2 w' ∧ w'.cell? ⟨b, off + k * 4, none⟩ = some (.int .i64 xb.ing) ∧ w'.cell? ⟨b, off + k * 4 + 1, none⟩ = some (.int .i64 xb.ts) ∧ w'.cell? ⟨b, off + k * 4 + 2, none⟩ = some (.int .i64 xb.beta) ∧ w'.cell? ⟨b, off + k * 4 + 3, none⟩ = some (.slice a3 n3 c3)) 11 12 (by kernel_rfl) (by kernel_rfl) (by kernel_rfl) (by decide) (by decide) (⟨Mk.drew1 _, d0, d1, d2, d3⟩) ?_
        change WkS _ _ _ _ _ _ 11 0 _
        first | (refine WkS.skip (m := 10) (k := 0) rfl (by rfl) ?_) | (refine WkS.pure (m := 10) (k := 0) (v := _) rfl (by rfl) (fun wv => by go_simp; try with_reducible rfl) ?_) | (refine WkS.step (m := 10) (k := 0) (v := _) rfl (by rfl) (by kernel_rfl) (fun wv hS => by obtain ⟨s0, s1, s2, s3, s4⟩ := hS; go_simp; try with_reducible rfl) ?_)
        try simp only [Act.put, List.getElem_toArray, List.getElem_cons_zero, List.setIfInBounds_toArray, List.set_cons_zero, List.set_cons_succ]
        first | (refine WkS.skip (m := 9) (k := 1) rfl (by rfl) ?_) | (refine WkS.pure (m := 9) (k := 1) (v := _) rfl (by rfl) (fun wv => by go_simp; try with_reducible rfl) ?_) | (refine WkS.step (m := 9) (k := 1) (v := _) rfl (by rfl) (by kernel_rfl) (fun wv hS => by obtain ⟨s0, s1, s2, s3, s4⟩ := hS; go_simp; try with_reducible rfl) ?_)
        try simp only [Act.put, List.getElem_toArray, List.getElem_cons_succ, List.getElem_cons_zero, List.setIfInBounds_toArray, List.set_cons_zero, List.set_cons_succ]
        first | (refine WkS.skip (m := 8) (k := 2) rfl (by rfl) ?_) | (refine WkS.pure (m := 8) (k := 2) (v := _) rfl (by rfl) (fun wv => by go_simp; try with_reducible rfl) ?_) | (refine WkS.step (m := 8) (k := 2) (v := _) rfl (by rfl) (by kernel_rfl) (fun wv hS => by obtain ⟨s0, s1, s2, s3, s4⟩ := hS; go_simp; try with_reducible rfl) ?_)
        try simp only [Act.put, List.getElem_toArray, List.getElem_cons_succ, List.getElem_cons_zero, List.setIfInBounds_toArray, List.set_cons_zero, List.set_cons_succ]
        first | (refine WkS.skip (m := 7) (k := 3) rfl (by rfl) ?_) | (refine WkS.pure (m := 7) (k := 3) (v := _) rfl (by rfl) (fun wv => by go_simp; try with_reducible rfl) ?_) | (refine WkS.step (m := 7) (k := 3) (v := _) rfl (by rfl) (by kernel_rfl) (fun wv hS => by obtain ⟨s0, s1, s2, s3, s4⟩ := hS; go_simp; try with_reducible rfl) ?_)
        try simp only [Act.put, List.getElem_toArray, List.getElem_cons_succ, List.getElem_cons_zero, List.setIfInBounds_toArray, List.set_cons_zero, List.set_cons_succ]
        first | (refine WkS.skip (m := 6) (k := 4) rfl (by rfl) ?_) | (refine WkS.pure (m := 6) (k := 4) (v := _) rfl (by rfl) (fun wv => by go_simp; try with_reducible rfl) ?_) | (refine WkS.step (m := 6) (k := 4) (v := _) rfl (by rfl) (by kernel_rfl) (fun wv hS => by obtain ⟨s0, s1, s2, s3, s4⟩ := hS; go_simp; try with_reducible rfl) ?_)
        try simp only [Act.put, List.getElem_toArray, List.getElem_cons_succ, List.getElem_cons_zero, List.setIfInBounds_toArray, List.set_cons_zero, List.set_cons_succ]
        first | (refine WkS.skip (m := 5) (k := 5) rfl (by rfl) ?_) | (refine WkS.pure (m := 5) (k := 5) (v := _) rfl (by rfl) (fun wv => by go_simp; try with_reducible rfl) ?_) | (refine WkS.step (m := 5) (k := 5) (v := _) rfl (by rfl) (by kernel_rfl) (fun wv hS => by obtain ⟨s0, s1, s2, s3, s4⟩ := hS; go_simp; try with_reducible rfl) ?_)
        try simp only [Act.put, List.getElem_toArray, List.getElem_cons_succ, List.getElem_cons_zero, List.setIfInBounds_toArray, List.set_cons_zero, List.set_cons_succ]
        first | (refine WkS.skip (m := 4) (k := 6) rfl (by rfl) ?_) | (refine WkS.pure (m := 4) (k := 6) (v := _) rfl (by rfl) (fun wv => by go_simp; try with_reducible rfl) ?_) | (refine WkS.step (m := 4) (k := 6) (v := _) rfl (by rfl) (by kernel_rfl) (fun wv hS => by obtain ⟨s0, s1, s2, s3, s4⟩ := hS; go_simp; try with_reducible rfl) ?_)
        try simp only [Act.put, List.getElem_toArray, List.getElem_cons_succ, List.getElem_cons_zero, List.setIfInBounds_toArray, List.set_cons_zero, List.set_cons_succ]
        first | (refine WkS.skip (m := 3) (k := 7) rfl (by rfl) ?_) | (refine WkS.pure (m := 3) (k := 7) (v := _) rfl (by rfl) (fun wv => by go_simp; try with_reducible rfl) ?_) | (refine WkS.step (m := 3) (k := 7) (v := _) rfl (by rfl) (by kernel_rfl) (fun wv hS => by obtain ⟨s0, s1, s2, s3, s4⟩ := hS; go_simp; try with_reducible rfl) ?_)
        try simp only [Act.put, List.getElem_toArray, List.getElem_cons_succ, List.getElem_cons_zero, List.setIfInBounds_toArray, List.set_cons_zero, List.set_cons_succ]
        first | (refine WkS.skip (m := 2) (k := 8) rfl (by rfl) ?_) | (refine WkS.pure (m := 2) (k := 8) (v := _) rfl (by rfl) (fun wv => by go_simp; try with_reducible rfl) ?_) | (refine WkS.step (m := 2) (k := 8) (v := _) rfl (by rfl) (by kernel_rfl) (fun wv hS => by obtain ⟨s0, s1, s2, s3, s4⟩ := hS; go_simp; try with_reducible rfl) ?_)
        try simp only [Act.put, List.getElem_toArray, List.getElem_cons_succ, List.getElem_cons_zero, List.setIfInBounds_toArray, List.set_cons_zero, List.set_cons_succ]
        first | (refine WkS.skip (m := 1) (k := 9) rfl (by rfl) ?_) | (refine WkS.pure (m := 1) (k := 9) (v := _) rfl (by rfl) (fun wv => by go_simp; try with_reducible rfl) ?_) | (refine WkS.step (m := 1) (k := 9) (v := _) rfl (by rfl) (by kernel_rfl) (fun wv hS => by obtain ⟨s0, s1, s2, s3, s4⟩ := hS; go_simp; try with_reducible rfl) ?_)
        try simp only [Act.put, List.getElem_toArray, List.getElem_cons_succ, List.getElem_cons_zero, List.setIfInBounds_toArray, List.set_cons_zero, List.set_cons_succ]
        first | (refine WkS.skip (m := 0) (k := 10) rfl (by rfl) ?_) | (refine WkS.pure (m := 0) (k := 10) (v := _) rfl (by rfl) (fun wv => by go_simp; try with_reducible rfl) ?_) | (refine WkS.step (m := 0) (k := 10) (v := _) rfl (by rfl) (by kernel_rfl) (fun wv hS => by obtain ⟨s0, s1, s2, s3, s4⟩ := hS; go_simp; try with_reducible rfl) ?_)
        try simp only [Act.put, List.getElem_toArray, List.getElem_cons_succ, List.getElem_cons_zero, List.setIfInBounds_toArray, List.set_cons_zero, List.set_cons_succ]
        refine WkS.done fun wE hE => ?_
        clear d0 d1 d2 d3
        obtain ⟨mE, d0, d1, d2, d3⟩ := hE
        have zE0 := mE.size
        change wpSoft _ _ _ _ 12 1 _ _
        refine wpSoft.call (n := 0) _ _ rfl (by rfl) (by go_simp; first | done | exact ⟨rfl, rfl⟩ | with_reducible rfl) ?_
        refine (specL9Copy xb.ts xb.beta a3 n3 c3 B xb.hops _ (hr.mk (hmy.trans mE) hBr (.inr (Nat.le_refl _))) (Nat.le_trans hBr (hmy.trans mE).size) hbd p3 p1).mono ?_
        rintro e wF0 ho; obtain ⟨A3, N3, C3, rfl, hcc, hO3, m3⟩ := ho.c
        refine ⟨_, rfl, ⟨mE.trans (m3), (m3).cellAt d0, (m3).cellAt d1, (m3).cellAt d2, (m3).cellAt d3⟩, ?_⟩
        intro wG0 mG0 hG0
        clear mE d0 d1 d2 d3
        obtain ⟨mE, d0, d1, d2, d3⟩ := hG0
        replace hO3 := hO3.mk mG0 (Nat.le_refl _) (.inr (.inr (Nat.le_refl _)))
        have zF0 := m3.size
        have zG0 := mG0.size
        have hK0 := Lib.hid (hK.out.mk (hmy.trans mE) (Nat.le_refl _) (.inr (.inr (Nat.le_refl _))))
        try simp only [Act.put, List.getElem_toArray, List.getElem_cons_succ, List.getElem_cons_zero, List.setIfInBounds_toArray, List.set_cons_zero, List.set_cons_succ]
        refine wpSoft.done ?_
        simp only [List.drop_succ_cons, List.drop_zero]
        have hszm := hmy.size
        clear hK
        have mB := Mk.alloc wG0 (Obj.cells #[.int .i64 xb.ing, .int .i64 xb.ts, .int .i64 xb.beta, .slice A3 N3 C3] 84)
        have mY := (hmy.trans mE).trans mB
        have hown2 := own_keptR hown mY
        have hh := hasR_new (cell := HBeacon.cell) (nc := 4) (by decide) wG0 84 (⟨xb.ing, xb.ts, xb.beta, A3, N3, C3⟩ : HBeacon) #[.int .i64 xb.ing, .int .i64 xb.ts, .int .i64 xb.beta, .slice A3 N3 C3] (fun j hj => by match j, hj with | 0, _ => rfl | 1, _ => rfl | 2, _ => rfl | 3, _ => rfl)
        have hlo : w.heap.size ≤ (wG0.alloc (Obj.cells #[.int .i64 xb.ing, .int .i64 xb.ts, .int .i64 xb.beta, .slice A3 N3 C3] 84)).heap.size := Nat.le_trans hlow mY.size
        have hLb : L ≤ k := by rw [hL.out]; omega
        have hK2 := Lib.hid ((hK0.out.snoc (g := (⟨xb.ing, xb.ts, xb.beta, A3, N3, C3⟩ : HBeacon)) (x := xb) rfl hgl.symm (show w.heap.size ≤ wE.heap.size by omega) zF0 ⟨rfl, rfl, rfl, hO3, hcc.2.1, hcc.2.2, hcc.1⟩ (show wr.heap.size ≤ wE.heap.size by omega) (fun q hq => .inl (by have := (hown.lt q hq).2; omega))).mk mB zG0 (.inr (.inr (Nat.le_refl _))))
        clear hO3 hK0
        go_wp2_with (at_builtin; refine wpList_appR4 (by decide) oneBeacon rfl (.tmp 22) (.tmp 35) 24 rfl w.heap.size 84 i0 _ Try.underlying24 hi0 hz0 rfl hz1 (by rw [hz2]; decide) _ gs L rfl hown2 _ 1 1 [(⟨xb.ing, xb.ts, xb.beta, A3, N3, C3⟩ : HBeacon)] rfl (fun h => by cases h) hh (by omega) hlo ?_; intro v2 w4 hown4 hgr hat)
        have M4 := (hM.trans mY).appR hgr (fun g hg => (hown2.lt g hg).1)
        have z4 := hgr.size
        have zB := mB.size
        have hK4 := hK2.out.grow hgr (Nat.le_trans zG0 mB.size) hat
        clear hK2 hat
        have hGL : (gs ++ [(⟨xb.ing, xb.ts, xb.beta, A3, N3, C3⟩ : HBeacon)]).length = L + 1 := by rw [List.length_append, hL.out]; rfl
        rw [← hGL] at hown4
        try simp only [noPan]
        try (go_wp2_with fail)
        go_roundw
        case rel => exact ⟨k + 1, gs ++ [(⟨xb.ing, xb.ts, xb.beta, A3, N3, C3⟩ : HBeacon)], by omega, by go_num, by rw [HE.out, List.length_append, List.length_append, hgl]; rfl, hown4, by rw [HE.out, List.length_append]; exact Lib.hid (hK4.wide (Nat.le_refl _) (by omega)), M4⟩
        case measure => simp [intOf]; omega
    · obtain rfl : k = n := by omega
      go_wp2_with fail
      go_ret
      obtain ⟨A, C, rfl, hca, hcb⟩ := ownsRow_sliceR2 hown
      exact ⟨A, gs.length, C, rfl, ⟨hca, hcb⟩, OwnN.of_row hown hK.out hgl.symm (Nat.le_refl _), hM⟩

end Go.Proofs.Ytdlafigjkefllaa
