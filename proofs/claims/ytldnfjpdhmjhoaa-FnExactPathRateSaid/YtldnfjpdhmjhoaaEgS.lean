
/- EgressSteps of both sides. -/
import Derived.Test.YtldnfjpdhmjhoaaEgI
namespace Go.Proofs.Ytldnfjpdhmjhoaa
open Go Go.Proofs Go.RowKit Go.Shelf Go.ChangeShapes Go.WideShapes Go.ChangeAt
set_option linter.unusedVariables false
theorem oneStepE : ∀ (x : TStep) (j : Nat), (TStep.cell x j).oneCell' = true := fun x j => by unfold TStep.cell; split <;> rfl
set_option maxRecDepth 100000 in
set_option maxHeartbeats 8000000 in
theorem specEgress (a : Option Addr) (n c B : Nat) (ps : List TPathPart) (w : World) (h : HasPathPart w B a n ps) (hB : B ≤ w.heap.size) (hs : szPathPart ps n ≤ 1048576) :
    Calls Try.prog 8 #[.agg #[.slice a n c]] w (OutRows 3 TStep.cell w (filtUp leaves (pathSt ps n) (pathSt ps n).length)) := by
  have M0 : Mk0 w (w.alloc (Obj.cells #[Value.slice a n c] 30)) := (Mk.alloc w (Obj.cells #[Value.slice a n c] 30))
  have k0 : (w.alloc (Obj.cells #[Value.slice a n c] 30)).cell? ⟨w.heap.size, 0, none⟩ = some (.slice a n c) := by simp [go_sem]
  have hs0 : (w.alloc (Obj.cells #[Value.slice a n c] 30)).heap.size = w.heap.size + 1 := by simp only [World.size_alloc]
  obtain ⟨i0, hi0, hz0, hz1, hz2⟩ := info_parts infoRStep
  have hlenR := Nat.le_trans (pathSt_le ps n) hs
  obtain ⟨R, hR⟩ : ∃ R, Hid (R = pathSt ps n) := ⟨_, Lib.hid rfl⟩
  rw [← hR.out] at hlenR ⊢
  go_enter Try.func8, Try.ntmps8
  go_wp2_with fail
  have hA := own_emptyR (w.alloc (Obj.cells #[Value.slice a n c] 30)) 49 3
  have MA := M0.new (.cells #[] 49)
  rw [hs0] at hA
  have hsB : ((w.alloc (Obj.cells #[Value.slice a n c] 30)).alloc (.cells #[] 49)).heap.size = w.heap.size + 2 := by rw [World.size_alloc, hs0]
  refine (specPathSteps a n c B ps ((w.alloc (Obj.cells #[Value.slice a n c] 30)).alloc (.cells #[] 49)) (h.mk MA hB (.inr (Nat.le_refl _))) (Nat.le_trans hB MA.size) hs).mono ?_
  rintro e w2 ⟨A, N, C, rfl, hcc, hO, m2⟩
  rw [← hR.out] at hO
  have hNl := hO.1
  have hA2 := own_keptR hA m2
  have MW := MA.trans m2
  have hlo2 := m2.size
  rw [hsB] at hO hlo2
  have hO2 := hO
  clear hA MA m2 hO hcc
  go_wp2_with fail
  have hOBs : ∀ g, (Value.slice (some ⟨w.heap.size + 1, 0, none⟩) 0 0).ownBlock = some g → g < w.heap.size + 2 ∨ w2.heap.size ≤ g := fun g hg => by simp [Value.ownBlock] at hg; omega
  go_loopw [3, 5] (fun v i wr => ∃ k : Nat, k ≤ N ∧ i = .int .i64 (k : Int) ∧ wr.ownsRow (w.heap.size + 1) 49 3 v (filtUp leaves R k).length (rowC 3 TStep.cell (filtUp leaves R k)) ∧ (∀ g, v.ownBlock = some g → g < w.heap.size + 2 ∨ w2.heap.size ≤ g) ∧ OwnR 3 TStep.cell wr (w.heap.size + 2) w2.heap.size A N R ∧ Mk0 w wr ∧ w2.heap.size ≤ wr.heap.size) (fun _ i _ => N - (intOf i).toNat)
  case atStart => exact ⟨0, Nat.zero_le _, rfl, hA2, hOBs, hO2, MW, Nat.le_refl _⟩
  case round =>
    clear hA2 hOBs hO2 MW
    obtain ⟨k, hk, rfl, hown, hob, hO, hM, hz2w⟩ := hrel
    have hul := filtUp_le leaves R k
    obtain ⟨L, hL⟩ : ∃ L, Hid (L = filtUp leaves R k) := ⟨_, Lib.hid rfl⟩
    rw [← hL.out] at hown hul
    by_cases hlt : k < N
    · obtain ⟨b, off, x, rfl, hb, hx, d0, d1, d2⟩ := HasStep.at _ _ _ _ _ _ hO.has hlt
      have hbr := World.block_lt_of_cell? _ _ d0
      simp only at hbr
      have i1 : (0 : Int) ≤ (k : Int) := by omega
      have i2 : (k : Int) < (N : Int) := by omega
      by_cases hz : x.eg = 0
      · have HE := Lib.hid (show filtUp leaves R (k + 1) = L by rw [filtUp, ← hx.out, hL.out]; unfold leaves; rw [hz]; rfl)
        have g1 : (x.eg != 0) = false := by rw [hz]; rfl
        have g2 : (x.eg == 0) = true := by rw [hz]; rfl
        clear hz
        go_wp2_with fail
        go_roundw
        case rel => exact ⟨k + 1, by omega, by go_num, by rw [HE.out]; exact hown, hob, hO, hM, hz2w⟩
        case measure => simp [intOf]; omega
      · have HE := Lib.hid (show filtUp leaves R (k + 1) = L ++ [x] by rw [filtUp, ← hx.out, hL.out]; unfold leaves; rw [if_pos (by simpa using hz)])
        have g1 : (x.eg != 0) = true := by simpa using hz
        have g2 : (x.eg == 0) = false := by simpa using hz
        clear hz
        have mB := Mk.alloc wr (Obj.cells #[.int .i64 x.nd, .int .i64 x.ing, .int .i64 x.eg] 49)
        have hown2 := own_keptR hown mB
        have hO2 := hO.mk mB hz2w (.inr (.inr (Nat.le_refl _)))
        have hh := hasR_new (cell := TStep.cell) (nc := 3) (by decide) wr 49 x #[.int .i64 x.nd, .int .i64 x.ing, .int .i64 x.eg] (fun j hj => by match j, hj with | 0, _ => rfl | 1, _ => rfl | 2, _ => rfl)
        have hlo : w.heap.size + 1 ≤ (wr.alloc (Obj.cells #[.int .i64 x.nd, .int .i64 x.ing, .int .i64 x.eg] 49)).heap.size := by have := mB.size; omega
        go_wp2_with (at_builtin; refine wpList_appR4 (by decide) oneStepE rfl (.tmp 21) (.tmp 26) 26 rfl (w.heap.size + 1) 49 i0 _ Try.underlying26 hi0 hz0 rfl hz1 (by rw [hz2]; decide) _ L L.length rfl hown2 _ 1 1 [x] rfl (fun h => by cases h) hh (by omega) hlo ?_; intro v2 w4 hown4 hgr hat)
        have M4 := (hM.trans mB).appR hgr (fun g hg => by have := (hown2.lt g hg).1; omega)
        have z4 := hgr.size
        have zB := mB.size
        have hO4 := hO2.grown hgr hob (Nat.le_trans hz2w zB)
        have hob4 : ∀ g, v2.ownBlock = some g → g < w.heap.size + 2 ∨ w2.heap.size ≤ g := fun g hg => by
            rcases hat with h | h
            · exact hob g (h.symm.trans hg)
            · rw [h] at hg; cases hg; exact .inr (Nat.le_trans hz2w zB)
        clear hat
        go_wp2_with fail
        go_roundw
        case rel => exact ⟨k + 1, by omega, by go_num, by rw [HE.out, List.length_append]; exact hown4, hob4, hO4, M4, by omega⟩
        case measure => simp [intOf]; omega
    · obtain rfl : k = N := by omega
      go_wp2_with fail
      go_ret
      rw [hNl, ← hL.out]
      exact OutRows.of (by decide) (own_lowR hown (by omega)) hM

end Go.Proofs.Ytldnfjpdhmjhoaa
