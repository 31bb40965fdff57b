
/- Copies of a segment by both sides. -/
import Derived.Test.YtdlafigjkefllaaMkcSegment
import Derived.Test.YtdlafigjkefllaaAppRun
import Derived.Test.YtdlafigjkefllaaWs
namespace Go.Proofs.Ytdlafigjkefllaa
open Go.ChangeShapes Go.WideShapes Go.ChangeAt Go.RowKit
set_option linter.unusedVariables false
def OutOSegment (x0 x1 : Int) (R : List THop) (w : World) (e : Ending) (w' : World) : Prop :=
  ∃ A N C, e = .returned (.agg #[.int .i64 x0, .int .i64 x1, .slice A N C]) ∧ w'.ownsRow w.heap.size 115 5 (.slice A N C) N (rowC 5 THop.cell R) ∧ Mk0 w w'
theorem OutOSegment.c {x0 x1 : Int} {R : List THop} {w : World} {e : Ending} {w' : World} (h : OutOSegment x0 x1 R w e w') : OutCSegment x0 x1 R w e w' := by
  obtain ⟨A, N, C, rfl, hown, m⟩ := h
  obtain ⟨_, _, e9, hca, hcb⟩ := ownsRow_sliceR2 hown
  cases e9
  exact ⟨A, N, C, rfl, ⟨hca, hcb⟩, ownsRow_ownR (by decide) hown, m⟩
theorem oneHopC : ∀ (x : THop) (j : Nat), (THop.cell x j).oneCell' = true := fun x j => by unfold THop.cell; split <;> rfl
set_option maxRecDepth 100000 in
set_option maxHeartbeats 4000000 in
theorem implCloneSeg (x0 x1 : Int) (a : Option Addr) (n c B : Nat) (zs : List THop) (w : World) (h : HasHop w B a n zs) (hB : B ≤ w.heap.size) (hn : n ≤ 1048576) (hc0 : a = none → c = 0) (hnc : n ≤ c) :
    Calls Try.prog 77 #[.agg #[.int .i64 x0, .int .i64 x1, .slice a n c]] w (OutOSegment x0 x1 zs w) := by
  have M0 := (Mk.alloc w (Obj.cells #[Value.int .i64 x0, Value.int .i64 x1, Value.slice a n c] 82)).new (Obj.cells #[Value.int .i64 0, Value.int .i64 0, Value.slice none 0 0] 82)
  have k0 : ((w.alloc (Obj.cells #[Value.int .i64 x0, Value.int .i64 x1, Value.slice a n c] 82)).alloc (Obj.cells #[Value.int .i64 0, Value.int .i64 0, Value.slice none 0 0] 82)).cell? ⟨w.heap.size, 0, none⟩ = some (.int .i64 x0) := by simp [go_sem]
  have k1 : ((w.alloc (Obj.cells #[Value.int .i64 x0, Value.int .i64 x1, Value.slice a n c] 82)).alloc (Obj.cells #[Value.int .i64 0, Value.int .i64 0, Value.slice none 0 0] 82)).cell? ⟨w.heap.size, 1, none⟩ = some (.int .i64 x1) := by simp [go_sem]
  have k2 : ((w.alloc (Obj.cells #[Value.int .i64 x0, Value.int .i64 x1, Value.slice a n c] 82)).alloc (Obj.cells #[Value.int .i64 0, Value.int .i64 0, Value.slice none 0 0] 82)).cell? ⟨w.heap.size, 2, none⟩ = some (.slice a n c) := by simp [go_sem]
  have r0 : ((w.alloc (Obj.cells #[Value.int .i64 x0, Value.int .i64 x1, Value.slice a n c] 82)).alloc (Obj.cells #[Value.int .i64 0, Value.int .i64 0, Value.slice none 0 0] 82)).cell? ⟨w.heap.size + 1, 0, none⟩ = some (.int .i64 0) := by simp [go_sem]
  have r1 : ((w.alloc (Obj.cells #[Value.int .i64 x0, Value.int .i64 x1, Value.slice a n c] 82)).alloc (Obj.cells #[Value.int .i64 0, Value.int .i64 0, Value.slice none 0 0] 82)).cell? ⟨w.heap.size + 1, 1, none⟩ = some (.int .i64 0) := by simp [go_sem]
  have r2 : ((w.alloc (Obj.cells #[Value.int .i64 x0, Value.int .i64 x1, Value.slice a n c] 82)).alloc (Obj.cells #[Value.int .i64 0, Value.int .i64 0, Value.slice none 0 0] 82)).cell? ⟨w.heap.size + 1, 2, none⟩ = some (.slice none 0 0) := by simp [go_sem]
  have fr : ∀ q, ((w.alloc (Obj.cells #[Value.int .i64 x0, Value.int .i64 x1, Value.slice a n c] 82)).alloc (Obj.cells #[Value.int .i64 0, Value.int .i64 0, Value.slice none 0 0] 82)).frozen? ⟨w.heap.size + 1, q, none⟩ = false := fun q => by simp [go_sem]
  have hs2 : ((w.alloc (Obj.cells #[Value.int .i64 x0, Value.int .i64 x1, Value.slice a n c] 82)).alloc (Obj.cells #[Value.int .i64 0, Value.int .i64 0, Value.slice none 0 0] 82)).heap.size = w.heap.size + 1 + 1 := by simp only [World.size_alloc]
  have fk : ∀ q, ((w.alloc (Obj.cells #[Value.int .i64 x0, Value.int .i64 x1, Value.slice a n c] 82)).alloc (Obj.cells #[Value.int .i64 0, Value.int .i64 0, Value.slice none 0 0] 82)).frozen? ⟨w.heap.size, q, none⟩ = false := fun q => by simp [go_sem]
  go_enter Try.func77, Try.ntmps77
  go_wp2_with fail
  generalize ((w.alloc (Obj.cells #[Value.int .i64 x0, Value.int .i64 x1, Value.slice a n c] 82)).alloc (Obj.cells #[Value.int .i64 0, Value.int .i64 0, Value.slice none 0 0] 82)) = WW at *
  refine (cloneHop a n c B zs _ (h.mk M0 hB (.inr (Nat.le_refl _))) (Nat.le_trans hB M0.size) hn hc0 hnc).mono ?_
  rintro e w2 hOO
  obtain ⟨v, rfl, hown, m2⟩ := hOO
  have hlz := h.1
  obtain ⟨A, C, rfl, hca, hcb⟩ := ownsRow_sliceR2 hown
  rw [hlz] at hown ⊢
  have hws2 := M0.size
  replace k0 := m2.cellAt k0
  replace k1 := m2.cellAt k1
  replace k2 := m2.cellAt k2
  replace r0 := m2.cellAt r0
  replace r1 := m2.cellAt r1
  replace r2 := m2.cellAt r2
  have hz2 := m2.size
  have fk2 : ∀ q, w2.frozen? ⟨w.heap.size, q, none⟩ = false := fun q => (m2.frozen (b := w.heap.size) (o := q) (by omega) (.inr (Nat.zero_le _))).trans (fk q)
  have fr2 : ∀ q, w2.frozen? ⟨w.heap.size + 1, q, none⟩ = false := fun q => (m2.frozen (b := w.heap.size + 1) (o := q) (by omega) (.inr (Nat.zero_le _))).trans (fr q)
  have M2 := M0.trans m2
  clear fk fr
  go_wp2_with fail
  replace k0 := cell_set k0 ⟨w.heap.size, 2, none⟩ (.slice A n C) (.inr (by simp))
  replace k1 := cell_set k1 ⟨w.heap.size, 2, none⟩ (.slice A n C) (.inr (by simp))
  replace k2 := World.cell?_setCell_same _ _ (.slice A n C) k2
  replace r0 := cell_set r0 ⟨w.heap.size, 2, none⟩ (.slice A n C) (.inl (show w.heap.size ≠ w.heap.size + 1 from by omega))
  replace r1 := cell_set r1 ⟨w.heap.size, 2, none⟩ (.slice A n C) (.inl (show w.heap.size ≠ w.heap.size + 1 from by omega))
  replace r2 := cell_set r2 ⟨w.heap.size, 2, none⟩ (.slice A n C) (.inl (show w.heap.size ≠ w.heap.size + 1 from by omega))
  replace hown := own_put hown ⟨w.heap.size, 2, none⟩ (.slice A n C) (show w.heap.size < _ from by omega)
  replace M2 := M2.put ⟨w.heap.size, 2, none⟩ (.slice A n C) (show w.heap.size ≤ w.heap.size from by omega)
  generalize (w2.setCell ⟨w.heap.size, 2, none⟩ (.slice A n C)) = w3 at *
  replace r0 := World.cell?_setCell_same _ _ (.int .i64 x0) r0
  replace r1 := cell_set r1 ⟨w.heap.size + 1, 0, none⟩ (.int .i64 x0) (.inr (by simp))
  replace r2 := cell_set r2 ⟨w.heap.size + 1, 0, none⟩ (.int .i64 x0) (.inr (by simp))
  replace hown := own_put hown ⟨w.heap.size + 1, 0, none⟩ (.int .i64 x0) (show w.heap.size + 1 < _ from by omega)
  replace M2 := M2.put ⟨w.heap.size + 1, 0, none⟩ (.int .i64 x0) (show w.heap.size ≤ w.heap.size + 1 from by omega)
  replace r0 := cell_set r0 ⟨w.heap.size + 1, 1, none⟩ (.int .i64 x1) (.inr (by simp))
  replace r1 := World.cell?_setCell_same _ _ (.int .i64 x1) r1
  replace r2 := cell_set r2 ⟨w.heap.size + 1, 1, none⟩ (.int .i64 x1) (.inr (by simp))
  replace hown := own_put hown ⟨w.heap.size + 1, 1, none⟩ (.int .i64 x1) (show w.heap.size + 1 < _ from by omega)
  replace M2 := M2.put ⟨w.heap.size + 1, 1, none⟩ (.int .i64 x1) (show w.heap.size ≤ w.heap.size + 1 from by omega)
  replace r0 := cell_set r0 ⟨w.heap.size + 1, 2, none⟩ (.slice A n C) (.inr (by simp))
  replace r1 := cell_set r1 ⟨w.heap.size + 1, 2, none⟩ (.slice A n C) (.inr (by simp))
  replace r2 := World.cell?_setCell_same _ _ (.slice A n C) r2
  replace hown := own_put hown ⟨w.heap.size + 1, 2, none⟩ (.slice A n C) (show w.heap.size + 1 < _ from by omega)
  replace M2 := M2.put ⟨w.heap.size + 1, 2, none⟩ (.slice A n C) (show w.heap.size ≤ w.heap.size + 1 from by omega)
  generalize (((w3.setCell ⟨w.heap.size + 1, 0, none⟩ (.int .i64 x0)).setCell ⟨w.heap.size + 1, 1, none⟩ (.int .i64 x1)).setCell ⟨w.heap.size + 1, 2, none⟩ (.slice A n C)) = WF at *
  exact bodyPost_ret (v := .agg #[.int .i64 x0, .int .i64 x1, .slice A n C]) (by simp [results, Try.results77, go_sem, r0, r1, r2]) rfl ⟨_, _, _, rfl, own_lowR hown (by omega), M2⟩

set_option maxRecDepth 100000 in
set_option maxHeartbeats 40000000 in
theorem specL9Copy (x0 x1 : Int) (a : Option Addr) (n c B : Nat) (zs : List THop) (w : World) (h : HasHop w B a n zs) (hB : B ≤ w.heap.size) (hn : n ≤ 1048576) (hc0 : a = none → c = 0) (hnc : n ≤ c) :
    Calls Try.prog 38 #[.agg #[.int .i64 x0, .int .i64 x1, .slice a n c]] w (OutOSegment x0 x1 zs w) := by
  obtain ⟨i0, hi0, hz0, hz1, hz2⟩ := info_parts infoRHop
  have M0 := (Mk.alloc w (Obj.cells #[Value.int .i64 x0, Value.int .i64 x1, Value.slice a n c] 82)).new (Obj.cells #[Value.int .i64 0, Value.int .i64 0, Value.slice none 0 0] 82)
  have k0 : ((w.alloc (Obj.cells #[Value.int .i64 x0, Value.int .i64 x1, Value.slice a n c] 82)).alloc (Obj.cells #[Value.int .i64 0, Value.int .i64 0, Value.slice none 0 0] 82)).cell? ⟨w.heap.size, 0, none⟩ = some (.int .i64 x0) := by simp [go_sem]
  have k1 : ((w.alloc (Obj.cells #[Value.int .i64 x0, Value.int .i64 x1, Value.slice a n c] 82)).alloc (Obj.cells #[Value.int .i64 0, Value.int .i64 0, Value.slice none 0 0] 82)).cell? ⟨w.heap.size, 1, none⟩ = some (.int .i64 x1) := by simp [go_sem]
  have k2 : ((w.alloc (Obj.cells #[Value.int .i64 x0, Value.int .i64 x1, Value.slice a n c] 82)).alloc (Obj.cells #[Value.int .i64 0, Value.int .i64 0, Value.slice none 0 0] 82)).cell? ⟨w.heap.size, 2, none⟩ = some (.slice a n c) := by simp [go_sem]
  have r0 : ((w.alloc (Obj.cells #[Value.int .i64 x0, Value.int .i64 x1, Value.slice a n c] 82)).alloc (Obj.cells #[Value.int .i64 0, Value.int .i64 0, Value.slice none 0 0] 82)).cell? ⟨w.heap.size + 1, 0, none⟩ = some (.int .i64 0) := by simp [go_sem]
  have r1 : ((w.alloc (Obj.cells #[Value.int .i64 x0, Value.int .i64 x1, Value.slice a n c] 82)).alloc (Obj.cells #[Value.int .i64 0, Value.int .i64 0, Value.slice none 0 0] 82)).cell? ⟨w.heap.size + 1, 1, none⟩ = some (.int .i64 0) := by simp [go_sem]
  have r2 : ((w.alloc (Obj.cells #[Value.int .i64 x0, Value.int .i64 x1, Value.slice a n c] 82)).alloc (Obj.cells #[Value.int .i64 0, Value.int .i64 0, Value.slice none 0 0] 82)).cell? ⟨w.heap.size + 1, 2, none⟩ = some (.slice none 0 0) := by simp [go_sem]
  have fr : ∀ q, ((w.alloc (Obj.cells #[Value.int .i64 x0, Value.int .i64 x1, Value.slice a n c] 82)).alloc (Obj.cells #[Value.int .i64 0, Value.int .i64 0, Value.slice none 0 0] 82)).frozen? ⟨w.heap.size + 1, q, none⟩ = false := fun q => by simp [go_sem]
  have hs2 : ((w.alloc (Obj.cells #[Value.int .i64 x0, Value.int .i64 x1, Value.slice a n c] 82)).alloc (Obj.cells #[Value.int .i64 0, Value.int .i64 0, Value.slice none 0 0] 82)).heap.size = w.heap.size + 1 + 1 := by simp only [World.size_alloc]
  have HX0 := Lib.hid (fun (w' : World) (m : Mk0 ((w.alloc (Obj.cells #[Value.int .i64 x0, Value.int .i64 x1, Value.slice a n c] 82)).alloc (Obj.cells #[Value.int .i64 0, Value.int .i64 0, Value.slice none 0 0] 82)) w') => m.cellAt k0)
  have HX1 := Lib.hid (fun (w' : World) (m : Mk0 ((w.alloc (Obj.cells #[Value.int .i64 x0, Value.int .i64 x1, Value.slice a n c] 82)).alloc (Obj.cells #[Value.int .i64 0, Value.int .i64 0, Value.slice none 0 0] 82)) w') => m.cellAt k1)
  have HX2 := Lib.hid (fun (w' : World) (m : Mk0 ((w.alloc (Obj.cells #[Value.int .i64 x0, Value.int .i64 x1, Value.slice a n c] 82)).alloc (Obj.cells #[Value.int .i64 0, Value.int .i64 0, Value.slice none 0 0] 82)) w') => m.cellAt k2)
  have HR0 := Lib.hid (fun (w' : World) (m : Mk0 ((w.alloc (Obj.cells #[Value.int .i64 x0, Value.int .i64 x1, Value.slice a n c] 82)).alloc (Obj.cells #[Value.int .i64 0, Value.int .i64 0, Value.slice none 0 0] 82)) w') => m.cellAt r0)
  have HR1 := Lib.hid (fun (w' : World) (m : Mk0 ((w.alloc (Obj.cells #[Value.int .i64 x0, Value.int .i64 x1, Value.slice a n c] 82)).alloc (Obj.cells #[Value.int .i64 0, Value.int .i64 0, Value.slice none 0 0] 82)) w') => m.cellAt r1)
  have HR2 := Lib.hid (fun (w' : World) (m : Mk0 ((w.alloc (Obj.cells #[Value.int .i64 x0, Value.int .i64 x1, Value.slice a n c] 82)).alloc (Obj.cells #[Value.int .i64 0, Value.int .i64 0, Value.slice none 0 0] 82)) w') => m.cellAt r2)
  have HFR := Lib.hid (fun (w' : World) (m : Mk0 ((w.alloc (Obj.cells #[Value.int .i64 x0, Value.int .i64 x1, Value.slice a n c] 82)).alloc (Obj.cells #[Value.int .i64 0, Value.int .i64 0, Value.slice none 0 0] 82)) w') (q : Nat) => (m.frozen (b := w.heap.size + 1) (o := q) (by omega) (.inr (Nat.zero_le _))).trans (fr q))
  have HH := Lib.hid (fun (w' : World) (m : Mk0 ((w.alloc (Obj.cells #[Value.int .i64 x0, Value.int .i64 x1, Value.slice a n c] 82)).alloc (Obj.cells #[Value.int .i64 0, Value.int .i64 0, Value.slice none 0 0] 82)) w') => h.mk (M0.trans m) hB (.inr (Nat.le_refl _)))
  have HC := Lib.hid hc0
  have hlz := h.1
  clear k0 k1 k2 r0 r1 r2 fr hc0
  go_enter Try.func38, Try.ntmps38
  go_wp2_with fail
  refine wp_region_any (by kernel_rfl) ?_
  change wpAny _ _ _ _ _ _ _ (World.drew ((w.alloc (Obj.cells #[Value.int .i64 x0, Value.int .i64 x1, Value.slice a n c] 82)).alloc (Obj.cells #[Value.int .i64 0, Value.int .i64 0, Value.slice none 0 0] 82)))
  have hM0 : Mk0 ((w.alloc (Obj.cells #[Value.int .i64 x0, Value.int .i64 x1, Value.slice a n c] 82)).alloc (Obj.cells #[Value.int .i64 0, Value.int .i64 0, Value.slice none 0 0] 82)) ((w.alloc (Obj.cells #[Value.int .i64 x0, Value.int .i64 x1, Value.slice a n c] 82)).alloc (Obj.cells #[Value.int .i64 0, Value.int .i64 0, Value.slice none 0 0] 82)).drew := Mk.drew1 _
  have hu0 : ((w.alloc (Obj.cells #[Value.int .i64 x0, Value.int .i64 x1, Value.slice a n c] 82)).alloc (Obj.cells #[Value.int .i64 0, Value.int .i64 0, Value.slice none 0 0] 82)).heap.size ≤ ((w.alloc (Obj.cells #[Value.int .i64 x0, Value.int .i64 x1, Value.slice a n c] 82)).alloc (Obj.cells #[Value.int .i64 0, Value.int .i64 0, Value.slice none 0 0] 82)).drew.heap.size := hM0.size
  generalize ((w.alloc (Obj.cells #[Value.int .i64 x0, Value.int .i64 x1, Value.slice a n c] 82)).alloc (Obj.cells #[Value.int .i64 0, Value.int .i64 0, Value.slice none 0 0] 82)).drew = u0 at *
  generalize ((w.alloc (Obj.cells #[Value.int .i64 x0, Value.int .i64 x1, Value.slice a n c] 82)).alloc (Obj.cells #[Value.int .i64 0, Value.int .i64 0, Value.slice none 0 0] 82)) = WW at *
  refine wpAny_take (i := 0) (v := _) rfl (by kernel_rfl) (by kernel_rfl) (by kernel_rfl) (fun _ _ _ h => h) (Or.inl ⟨by rfl, fun w => by go_simp; try with_reducible rfl⟩) ?_
  try simp only [Act.put, List.getElem_toArray, List.getElem_cons_zero, List.setIfInBounds_toArray, List.set_cons_zero, List.set_cons_succ]
  refine wpAny_take (i := 2) (v := _) rfl (by kernel_rfl) (by kernel_rfl) (by kernel_rfl) (fun _ _ _ h => h) (Or.inl ⟨by rfl, fun w => by go_simp; try with_reducible rfl⟩) ?_
  try simp only [Act.put, List.getElem_toArray, List.getElem_cons_succ, List.getElem_cons_zero, List.setIfInBounds_toArray, List.set_cons_zero, List.set_cons_succ]
  refine wpAny_take (i := 5) (v := _) rfl (by kernel_rfl) (by kernel_rfl) (by kernel_rfl) (fun _ _ _ h => h) (Or.inl ⟨by rfl, fun w => by go_simp; try with_reducible rfl⟩) ?_
  try simp only [Act.put, List.getElem_toArray, List.getElem_cons_succ, List.getElem_cons_zero, List.setIfInBounds_toArray, List.set_cons_zero, List.set_cons_succ]
  refine wpAny_ready (rs := [1, 3, 4, 6]) (by kernel_rfl) (by simp) ?_
  refine (AllReady.cons rfl (fun K hK => ?_) (AllReady.cons rfl (fun K hK => ?_) (AllReady.cons rfl (fun K hK => ?_) (AllReady.cons rfl (fun K hK => ?_) AllReady.nil))))
  · have d0 := HX0.out _ hM0
    go_simp
    refine hK _ _ ?_
    clear hK K
    try simp only [Act.put, List.getElem_toArray, List.getElem_cons_succ, List.getElem_cons_zero, List.setIfInBounds_toArray, List.set_cons_zero, List.set_cons_succ]
    clear d0
    refine wpAny_ready (rs := [3, 4, 6]) (by kernel_rfl) (by simp) ?_
    refine (AllReady.cons rfl (fun K hK => ?_) (AllReady.cons rfl (fun K hK => ?_) (AllReady.cons rfl (fun K hK => ?_) AllReady.nil)))
    · have d0 := HX1.out _ hM0
      go_simp
      refine hK _ _ ?_
      clear hK K
      try simp only [Act.put, List.getElem_toArray, List.getElem_cons_succ, List.getElem_cons_zero, List.setIfInBounds_toArray, List.set_cons_zero, List.set_cons_succ]
      clear d0
      refine wpAny_ready (rs := [4, 6]) (by kernel_rfl) (by simp) ?_
      refine (AllReady.cons rfl (fun K hK => ?_) (AllReady.cons rfl (fun K hK => ?_) AllReady.nil))
      · go_simp
        refine hK _ _ ?_
        clear hK K
        try simp only [Act.put, List.getElem_toArray, List.getElem_cons_succ, List.getElem_cons_zero, List.setIfInBounds_toArray, List.set_cons_zero, List.set_cons_succ]
        have hA := own_emptyR u0 115 5
        have hM1 : Mk0 WW (u0.alloc (.cells #[] 115)) := hM0.new _
        replace hA := own_lowR hA hM0.size
        generalize u0.alloc (.cells #[] 115) = u1 at *
        refine wpAny_ready (rs := [6]) (by kernel_rfl) (by simp) ?_
        refine (AllReady.cons rfl (fun K hK => ?_) AllReady.nil)
        have d0 := HX2.out _ hM1
        go_simp
        refine hK _ _ ?_
        clear hK K
        try simp only [Act.put, List.getElem_toArray, List.getElem_cons_succ, List.getElem_cons_zero, List.setIfInBounds_toArray, List.set_cons_zero, List.set_cons_succ]
        clear d0
        refine wpAny_ready (rs := [7]) (by kernel_rfl) (by simp) ?_
        refine (AllReady.cons rfl (fun K hK => ?_) AllReady.nil)
        refine step_appR (nc := 5) (cell := THop.cell) (by decide) oneHopC (by rfl) (.tmp 7) (.tmp 9) 80 (by rfl) WW.heap.size 115 i0 _ Try.underlying80 hi0 hz0 rfl hz1 (by rw [hz2]; decide) _ [] 0 (by rfl) hA a n c zs (by rfl) HC.out ((HH.out _ hM1).mono (Nat.le_trans hB (M0.trans hM1).size)) (by omega) hM1.size ?_
        intro v2 u2 hown2 hgr2 hat2
        refine hK _ _ ?_
        clear hK K
        try simp only [Act.put, List.getElem_toArray, List.getElem_cons_succ, List.getElem_cons_zero, List.setIfInBounds_toArray, List.set_cons_zero, List.set_cons_succ]
        have hM2 := mk_grewR hM1 hgr2 (fun g e => (hA.lt g e).1)
        simp only [Nat.zero_add, List.nil_append] at hown2
        obtain ⟨A, C, rfl, hca, hcb⟩ := ownsRow_sliceR2 hown2
        clear hA hgr2 hat2 hca hcb
        refine wpAny_take (i := 8) (v := _) rfl (by kernel_rfl) (by kernel_rfl) (by kernel_rfl) (fun _ _ _ h => h) (Or.inl ⟨by rfl, fun w => by go_simp; try with_reducible rfl⟩) ?_
        try simp only [Act.put, List.getElem_toArray, List.getElem_cons_succ, List.getElem_cons_zero, List.setIfInBounds_toArray, List.set_cons_zero, List.set_cons_succ]
        refine wpAny_ready (rs := [9]) (by kernel_rfl) (by simp) ?_
        refine (AllReady.cons rfl (fun K hK => ?_) AllReady.nil)
        have q0 := HR0.out _ hM2
        have q1 := HR1.out _ hM2
        have q2 := HR2.out _ hM2
        have fq := HFR.out _ hM2
        go_simp
        refine hK _ _ ?_
        clear hK K
        try simp only [Act.put, List.getElem_toArray, List.getElem_cons_succ, List.getElem_cons_zero, List.setIfInBounds_toArray, List.set_cons_zero, List.set_cons_succ]
        refine wpAny_done (by kernel_rfl) ?_ _
        refine ‹∀ (a : Act) (w : World), _ → _› _ _ ?_
        have zz2 := hM2.size
        have M2 := M0.trans hM2
        have r0 := HR0.out _ hM2
        have r1 := HR1.out _ hM2
        have r2 := HR2.out _ hM2
        clear HX0 HX1 HX2 HR0 HR1 HR2 HFR HH
        go_wp2_with fail
        replace r0 := World.cell?_setCell_same _ _ (.int .i64 x0) r0
        replace r1 := cell_set r1 ⟨w.heap.size + 1, 0, none⟩ (.int .i64 x0) (.inr (by simp))
        replace r2 := cell_set r2 ⟨w.heap.size + 1, 0, none⟩ (.int .i64 x0) (.inr (by simp))
        replace hown2 := own_put hown2 ⟨w.heap.size + 1, 0, none⟩ (.int .i64 x0) (show w.heap.size + 1 < _ from by omega)
        replace M2 := M2.put ⟨w.heap.size + 1, 0, none⟩ (.int .i64 x0) (show w.heap.size ≤ w.heap.size + 1 from by omega)
        replace r0 := cell_set r0 ⟨w.heap.size + 1, 1, none⟩ (.int .i64 x1) (.inr (by simp))
        replace r1 := World.cell?_setCell_same _ _ (.int .i64 x1) r1
        replace r2 := cell_set r2 ⟨w.heap.size + 1, 1, none⟩ (.int .i64 x1) (.inr (by simp))
        replace hown2 := own_put hown2 ⟨w.heap.size + 1, 1, none⟩ (.int .i64 x1) (show w.heap.size + 1 < _ from by omega)
        replace M2 := M2.put ⟨w.heap.size + 1, 1, none⟩ (.int .i64 x1) (show w.heap.size ≤ w.heap.size + 1 from by omega)
        replace r0 := cell_set r0 ⟨w.heap.size + 1, 2, none⟩ (.slice A n C) (.inr (by simp))
        replace r1 := cell_set r1 ⟨w.heap.size + 1, 2, none⟩ (.slice A n C) (.inr (by simp))
        replace r2 := World.cell?_setCell_same _ _ (.slice A n C) r2
        replace hown2 := own_put hown2 ⟨w.heap.size + 1, 2, none⟩ (.slice A n C) (show w.heap.size + 1 < _ from by omega)
        replace M2 := M2.put ⟨w.heap.size + 1, 2, none⟩ (.slice A n C) (show w.heap.size ≤ w.heap.size + 1 from by omega)
        generalize (((u2.setCell ⟨w.heap.size + 1, 0, none⟩ (.int .i64 x0)).setCell ⟨w.heap.size + 1, 1, none⟩ (.int .i64 x1)).setCell ⟨w.heap.size + 1, 2, none⟩ (.slice A n C)) = WF at *
        exact bodyPost_ret (v := .agg #[.int .i64 x0, .int .i64 x1, .slice A n C]) (by simp [results, Try.results38, go_sem, r0, r1, r2]) rfl ⟨_, _, _, rfl, own_lowR hown2 (by omega), M2⟩
      · have d0 := HX2.out _ hM0
        go_simp
        refine hK _ _ ?_
        clear hK K
        try simp only [Act.put, List.getElem_toArray, List.getElem_cons_succ, List.getElem_cons_zero, List.setIfInBounds_toArray, List.set_cons_zero, List.set_cons_succ]
        clear d0
        refine wpAny_ready (rs := [4]) (by kernel_rfl) (by simp) ?_
        refine (AllReady.cons rfl (fun K hK => ?_) AllReady.nil)
        go_simp
        refine hK _ _ ?_
        clear hK K
        try simp only [Act.put, List.getElem_toArray, List.getElem_cons_succ, List.getElem_cons_zero, List.setIfInBounds_toArray, List.set_cons_zero, List.set_cons_succ]
        have hA := own_emptyR u0 115 5
        have hM1 : Mk0 WW (u0.alloc (.cells #[] 115)) := hM0.new _
        replace hA := own_lowR hA hM0.size
        generalize u0.alloc (.cells #[] 115) = u1 at *
        refine wpAny_ready (rs := [7]) (by kernel_rfl) (by simp) ?_
        refine (AllReady.cons rfl (fun K hK => ?_) AllReady.nil)
        refine step_appR (nc := 5) (cell := THop.cell) (by decide) oneHopC (by rfl) (.tmp 7) (.tmp 9) 80 (by rfl) WW.heap.size 115 i0 _ Try.underlying80 hi0 hz0 rfl hz1 (by rw [hz2]; decide) _ [] 0 (by rfl) hA a n c zs (by rfl) HC.out ((HH.out _ hM1).mono (Nat.le_trans hB (M0.trans hM1).size)) (by omega) hM1.size ?_
        intro v2 u2 hown2 hgr2 hat2
        refine hK _ _ ?_
        clear hK K
        try simp only [Act.put, List.getElem_toArray, List.getElem_cons_succ, List.getElem_cons_zero, List.setIfInBounds_toArray, List.set_cons_zero, List.set_cons_succ]
        have hM2 := mk_grewR hM1 hgr2 (fun g e => (hA.lt g e).1)
        simp only [Nat.zero_add, List.nil_append] at hown2
        obtain ⟨A, C, rfl, hca, hcb⟩ := ownsRow_sliceR2 hown2
        clear hA hgr2 hat2 hca hcb
        refine wpAny_take (i := 8) (v := _) rfl (by kernel_rfl) (by kernel_rfl) (by kernel_rfl) (fun _ _ _ h => h) (Or.inl ⟨by rfl, fun w => by go_simp; try with_reducible rfl⟩) ?_
        try simp only [Act.put, List.getElem_toArray, List.getElem_cons_succ, List.getElem_cons_zero, List.setIfInBounds_toArray, List.set_cons_zero, List.set_cons_succ]
        refine wpAny_ready (rs := [9]) (by kernel_rfl) (by simp) ?_
        refine (AllReady.cons rfl (fun K hK => ?_) AllReady.nil)
        have q0 := HR0.out _ hM2
        have q1 := HR1.out _ hM2
        have q2 := HR2.out _ hM2
        have fq := HFR.out _ hM2
        go_simp
        refine hK _ _ ?_
        clear hK K
        try simp only [Act.put, List.getElem_toArray, List.getElem_cons_succ, List.getElem_cons_zero, List.setIfInBounds_toArray, List.set_cons_zero, List.set_cons_succ]
        refine wpAny_done (by kernel_rfl) ?_ _
        refine ‹∀ (a : Act) (w : World), _ → _› _ _ ?_
        have zz2 := hM2.size
        have M2 := M0.trans hM2
        have r0 := HR0.out _ hM2
        have r1 := HR1.out _ hM2
        have r2 := HR2.out _ hM2
        clear HX0 HX1 HX2 HR0 HR1 HR2 HFR HH
        go_wp2_with fail
        replace r0 := World.cell?_setCell_same _ _ (.int .i64 x0) r0
        replace r1 := cell_set r1 ⟨w.heap.size + 1, 0, none⟩ (.int .i64 x0) (.inr (by simp))
        replace r2 := cell_set r2 ⟨w.heap.size + 1, 0, none⟩ (.int .i64 x0) (.inr (by simp))
        replace hown2 := own_put hown2 ⟨w.heap.size + 1, 0, none⟩ (.int .i64 x0) (show w.heap.size + 1 < _ from by omega)
        replace M2 := M2.put ⟨w.heap.size + 1, 0, none⟩ (.int .i64 x0) (show w.heap.size ≤ w.heap.size + 1 from by omega)
        replace r0 := cell_set r0 ⟨w.heap.size + 1, 1, none⟩ (.int .i64 x1) (.inr (by simp))
        replace r1 := World.cell?_setCell_same _ _ (.int .i64 x1) r1
        replace r2 := cell_set r2 ⟨w.heap.size + 1, 1, none⟩ (.int .i64 x1) (.inr (by simp))
        replace hown2 := own_put hown2 ⟨w.heap.size + 1, 1, none⟩ (.int .i64 x1) (show w.heap.size + 1 < _ from by omega)
        replace M2 := M2.put ⟨w.heap.size + 1, 1, none⟩ (.int .i64 x1) (show w.heap.size ≤ w.heap.size + 1 from by omega)
        replace r0 := cell_set r0 ⟨w.heap.size + 1, 2, none⟩ (.slice A n C) (.inr (by simp))
        replace r1 := cell_set r1 ⟨w.heap.size + 1, 2, none⟩ (.slice A n C) (.inr (by simp))
        replace r2 := World.cell?_setCell_same _ _ (.slice A n C) r2
        replace hown2 := own_put hown2 ⟨w.heap.size + 1, 2, none⟩ (.slice A n C) (show w.heap.size + 1 < _ from by omega)
        replace M2 := M2.put ⟨w.heap.size + 1, 2, none⟩ (.slice A n C) (show w.heap.size ≤ w.heap.size + 1 from by omega)
        generalize (((u2.setCell ⟨w.heap.size + 1, 0, none⟩ (.int .i64 x0)).setCell ⟨w.heap.size + 1, 1, none⟩ (.int .i64 x1)).setCell ⟨w.heap.size + 1, 2, none⟩ (.slice A n C)) = WF at *
        exact bodyPost_ret (v := .agg #[.int .i64 x0, .int .i64 x1, .slice A n C]) (by simp [results, Try.results38, go_sem, r0, r1, r2]) rfl ⟨_, _, _, rfl, own_lowR hown2 (by omega), M2⟩
    · go_simp
      refine hK _ _ ?_
      clear hK K
      try simp only [Act.put, List.getElem_toArray, List.getElem_cons_succ, List.getElem_cons_zero, List.setIfInBounds_toArray, List.set_cons_zero, List.set_cons_succ]
      have hA := own_emptyR u0 115 5
      have hM1 : Mk0 WW (u0.alloc (.cells #[] 115)) := hM0.new _
      replace hA := own_lowR hA hM0.size
      generalize u0.alloc (.cells #[] 115) = u1 at *
      refine wpAny_ready (rs := [3, 6]) (by kernel_rfl) (by simp) ?_
      refine (AllReady.cons rfl (fun K hK => ?_) (AllReady.cons rfl (fun K hK => ?_) AllReady.nil))
      · have d0 := HX1.out _ hM1
        go_simp
        refine hK _ _ ?_
        clear hK K
        try simp only [Act.put, List.getElem_toArray, List.getElem_cons_succ, List.getElem_cons_zero, List.setIfInBounds_toArray, List.set_cons_zero, List.set_cons_succ]
        clear d0
        refine wpAny_ready (rs := [6]) (by kernel_rfl) (by simp) ?_
        refine (AllReady.cons rfl (fun K hK => ?_) AllReady.nil)
        have d0 := HX2.out _ hM1
        go_simp
        refine hK _ _ ?_
        clear hK K
        try simp only [Act.put, List.getElem_toArray, List.getElem_cons_succ, List.getElem_cons_zero, List.setIfInBounds_toArray, List.set_cons_zero, List.set_cons_succ]
        clear d0
        refine wpAny_ready (rs := [7]) (by kernel_rfl) (by simp) ?_
        refine (AllReady.cons rfl (fun K hK => ?_) AllReady.nil)
        refine step_appR (nc := 5) (cell := THop.cell) (by decide) oneHopC (by rfl) (.tmp 7) (.tmp 9) 80 (by rfl) WW.heap.size 115 i0 _ Try.underlying80 hi0 hz0 rfl hz1 (by rw [hz2]; decide) _ [] 0 (by rfl) hA a n c zs (by rfl) HC.out ((HH.out _ hM1).mono (Nat.le_trans hB (M0.trans hM1).size)) (by omega) hM1.size ?_
        intro v2 u2 hown2 hgr2 hat2
        refine hK _ _ ?_
        clear hK K
        try simp only [Act.put, List.getElem_toArray, List.getElem_cons_succ, List.getElem_cons_zero, List.setIfInBounds_toArray, List.set_cons_zero, List.set_cons_succ]
        have hM2 := mk_grewR hM1 hgr2 (fun g e => (hA.lt g e).1)
        simp only [Nat.zero_add, List.nil_append] at hown2
        obtain ⟨A, C, rfl, hca, hcb⟩ := ownsRow_sliceR2 hown2
        clear hA hgr2 hat2 hca hcb
        refine wpAny_take (i := 8) (v := _) rfl (by kernel_rfl) (by kernel_rfl) (by kernel_rfl) (fun _ _ _ h => h) (Or.inl ⟨by rfl, fun w => by go_simp; try with_reducible rfl⟩) ?_
        try simp only [Act.put, List.getElem_toArray, List.getElem_cons_succ, List.getElem_cons_zero, List.setIfInBounds_toArray, List.set_cons_zero, List.set_cons_succ]
        refine wpAny_ready (rs := [9]) (by kernel_rfl) (by simp) ?_
        refine (AllReady.cons rfl (fun K hK => ?_) AllReady.nil)
        have q0 := HR0.out _ hM2
        have q1 := HR1.out _ hM2
        have q2 := HR2.out _ hM2
        have fq := HFR.out _ hM2
        go_simp
        refine hK _ _ ?_
        clear hK K
        try simp only [Act.put, List.getElem_toArray, List.getElem_cons_succ, List.getElem_cons_zero, List.setIfInBounds_toArray, List.set_cons_zero, List.set_cons_succ]
        refine wpAny_done (by kernel_rfl) ?_ _
        refine ‹∀ (a : Act) (w : World), _ → _› _ _ ?_
        have zz2 := hM2.size
        have M2 := M0.trans hM2
        have r0 := HR0.out _ hM2
        have r1 := HR1.out _ hM2
        have r2 := HR2.out _ hM2
        clear HX0 HX1 HX2 HR0 HR1 HR2 HFR HH
        go_wp2_with fail
        replace r0 := World.cell?_setCell_same _ _ (.int .i64 x0) r0
        replace r1 := cell_set r1 ⟨w.heap.size + 1, 0, none⟩ (.int .i64 x0) (.inr (by simp))
        replace r2 := cell_set r2 ⟨w.heap.size + 1, 0, none⟩ (.int .i64 x0) (.inr (by simp))
        replace hown2 := own_put hown2 ⟨w.heap.size + 1, 0, none⟩ (.int .i64 x0) (show w.heap.size + 1 < _ from by omega)
        replace M2 := M2.put ⟨w.heap.size + 1, 0, none⟩ (.int .i64 x0) (show w.heap.size ≤ w.heap.size + 1 from by omega)
        replace r0 := cell_set r0 ⟨w.heap.size + 1, 1, none⟩ (.int .i64 x1) (.inr (by simp))
        replace r1 := World.cell?_setCell_same _ _ (.int .i64 x1) r1
        replace r2 := cell_set r2 ⟨w.heap.size + 1, 1, none⟩ (.int .i64 x1) (.inr (by simp))
        replace hown2 := own_put hown2 ⟨w.heap.size + 1, 1, none⟩ (.int .i64 x1) (show w.heap.size + 1 < _ from by omega)
        replace M2 := M2.put ⟨w.heap.size + 1, 1, none⟩ (.int .i64 x1) (show w.heap.size ≤ w.heap.size + 1 from by omega)
        replace r0 := cell_set r0 ⟨w.heap.size + 1, 2, none⟩ (.slice A n C) (.inr (by simp))
        replace r1 := cell_set r1 ⟨w.heap.size + 1, 2, none⟩ (.slice A n C) (.inr (by simp))
        replace r2 := World.cell?_setCell_same _ _ (.slice A n C) r2
        replace hown2 := own_put hown2 ⟨w.heap.size + 1, 2, none⟩ (.slice A n C) (show w.heap.size + 1 < _ from by omega)
        replace M2 := M2.put ⟨w.heap.size + 1, 2, none⟩ (.slice A n C) (show w.heap.size ≤ w.heap.size + 1 from by omega)
        generalize (((u2.setCell ⟨w.heap.size + 1, 0, none⟩ (.int .i64 x0)).setCell ⟨w.heap.size + 1, 1, none⟩ (.int .i64 x1)).setCell ⟨w.heap.size + 1, 2, none⟩ (.slice A n C)) = WF at *
        exact bodyPost_ret (v := .agg #[.int .i64 x0, .int .i64 x1, .slice A n C]) (by simp [results, Try.results38, go_sem, r0, r1, r2]) rfl ⟨_, _, _, rfl, own_lowR hown2 (by omega), M2⟩
      · have d0 := HX2.out _ hM1
        go_simp
        refine hK _ _ ?_
        clear hK K
        try simp only [Act.put, List.getElem_toArray, List.getElem_cons_succ, List.getElem_cons_zero, List.setIfInBounds_toArray, List.set_cons_zero, List.set_cons_succ]
        clear d0
        refine wpAny_ready (rs := [3, 7]) (by kernel_rfl) (by simp) ?_
        refine (AllReady.cons rfl (fun K hK => ?_) (AllReady.cons rfl (fun K hK => ?_) AllReady.nil))
        · have d0 := HX1.out _ hM1
          go_simp
          refine hK _ _ ?_
          clear hK K
          try simp only [Act.put, List.getElem_toArray, List.getElem_cons_succ, List.getElem_cons_zero, List.setIfInBounds_toArray, List.set_cons_zero, List.set_cons_succ]
          clear d0
          refine wpAny_ready (rs := [7]) (by kernel_rfl) (by simp) ?_
          refine (AllReady.cons rfl (fun K hK => ?_) AllReady.nil)
          refine step_appR (nc := 5) (cell := THop.cell) (by decide) oneHopC (by rfl) (.tmp 7) (.tmp 9) 80 (by rfl) WW.heap.size 115 i0 _ Try.underlying80 hi0 hz0 rfl hz1 (by rw [hz2]; decide) _ [] 0 (by rfl) hA a n c zs (by rfl) HC.out ((HH.out _ hM1).mono (Nat.le_trans hB (M0.trans hM1).size)) (by omega) hM1.size ?_
          intro v2 u2 hown2 hgr2 hat2
          refine hK _ _ ?_
          clear hK K
          try simp only [Act.put, List.getElem_toArray, List.getElem_cons_succ, List.getElem_cons_zero, List.setIfInBounds_toArray, List.set_cons_zero, List.set_cons_succ]
          have hM2 := mk_grewR hM1 hgr2 (fun g e => (hA.lt g e).1)
          simp only [Nat.zero_add, List.nil_append] at hown2
          obtain ⟨A, C, rfl, hca, hcb⟩ := ownsRow_sliceR2 hown2
          clear hA hgr2 hat2 hca hcb
          refine wpAny_take (i := 8) (v := _) rfl (by kernel_rfl) (by kernel_rfl) (by kernel_rfl) (fun _ _ _ h => h) (Or.inl ⟨by rfl, fun w => by go_simp; try with_reducible rfl⟩) ?_
          try simp only [Act.put, List.getElem_toArray, List.getElem_cons_succ, List.getElem_cons_zero, List.setIfInBounds_toArray, List.set_cons_zero, List.set_cons_succ]
          refine wpAny_ready (rs := [9]) (by kernel_rfl) (by simp) ?_
          refine (AllReady.cons rfl (fun K hK => ?_) AllReady.nil)
          have q0 := HR0.out _ hM2
          have q1 := HR1.out _ hM2
          have q2 := HR2.out _ hM2
          have fq := HFR.out _ hM2
          go_simp
          refine hK _ _ ?_
          clear hK K
          try simp only [Act.put, List.getElem_toArray, List.getElem_cons_succ, List.getElem_cons_zero, List.setIfInBounds_toArray, List.set_cons_zero, List.set_cons_succ]
          refine wpAny_done (by kernel_rfl) ?_ _
          refine ‹∀ (a : Act) (w : World), _ → _› _ _ ?_
          have zz2 := hM2.size
          have M2 := M0.trans hM2
          have r0 := HR0.out _ hM2
          have r1 := HR1.out _ hM2
          have r2 := HR2.out _ hM2
          clear HX0 HX1 HX2 HR0 HR1 HR2 HFR HH
          go_wp2_with fail
          replace r0 := World.cell?_setCell_same _ _ (.int .i64 x0) r0
          replace r1 := cell_set r1 ⟨w.heap.size + 1, 0, none⟩ (.int .i64 x0) (.inr (by simp))
          replace r2 := cell_set r2 ⟨w.heap.size + 1, 0, none⟩ (.int .i64 x0) (.inr (by simp))
          replace hown2 := own_put hown2 ⟨w.heap.size + 1, 0, none⟩ (.int .i64 x0) (show w.heap.size + 1 < _ from by omega)
          replace M2 := M2.put ⟨w.heap.size + 1, 0, none⟩ (.int .i64 x0) (show w.heap.size ≤ w.heap.size + 1 from by omega)
          replace r0 := cell_set r0 ⟨w.heap.size + 1, 1, none⟩ (.int .i64 x1) (.inr (by simp))
          replace r1 := World.cell?_setCell_same _ _ (.int .i64 x1) r1
          replace r2 := cell_set r2 ⟨w.heap.size + 1, 1, none⟩ (.int .i64 x1) (.inr (by simp))
          replace hown2 := own_put hown2 ⟨w.heap.size + 1, 1, none⟩ (.int .i64 x1) (show w.heap.size + 1 < _ from by omega)
          replace M2 := M2.put ⟨w.heap.size + 1, 1, none⟩ (.int .i64 x1) (show w.heap.size ≤ w.heap.size + 1 from by omega)
          replace r0 := cell_set r0 ⟨w.heap.size + 1, 2, none⟩ (.slice A n C) (.inr (by simp))
          replace r1 := cell_set r1 ⟨w.heap.size + 1, 2, none⟩ (.slice A n C) (.inr (by simp))
          replace r2 := World.cell?_setCell_same _ _ (.slice A n C) r2
          replace hown2 := own_put hown2 ⟨w.heap.size + 1, 2, none⟩ (.slice A n C) (show w.heap.size + 1 < _ from by omega)
          replace M2 := M2.put ⟨w.heap.size + 1, 2, none⟩ (.slice A n C) (show w.heap.size ≤ w.heap.size + 1 from by omega)
          generalize (((u2.setCell ⟨w.heap.size + 1, 0, none⟩ (.int .i64 x0)).setCell ⟨w.heap.size + 1, 1, none⟩ (.int .i64 x1)).setCell ⟨w.heap.size + 1, 2, none⟩ (.slice A n C)) = WF at *
          exact bodyPost_ret (v := .agg #[.int .i64 x0, .int .i64 x1, .slice A n C]) (by simp [results, Try.results38, go_sem, r0, r1, r2]) rfl ⟨_, _, _, rfl, own_lowR hown2 (by omega), M2⟩
        · refine step_appR (nc := 5) (cell := THop.cell) (by decide) oneHopC (by rfl) (.tmp 7) (.tmp 9) 80 (by rfl) WW.heap.size 115 i0 _ Try.underlying80 hi0 hz0 rfl hz1 (by rw [hz2]; decide) _ [] 0 (by rfl) hA a n c zs (by rfl) HC.out ((HH.out _ hM1).mono (Nat.le_trans hB (M0.trans hM1).size)) (by omega) hM1.size ?_
          intro v2 u2 hown2 hgr2 hat2
          refine hK _ _ ?_
          clear hK K
          try simp only [Act.put, List.getElem_toArray, List.getElem_cons_succ, List.getElem_cons_zero, List.setIfInBounds_toArray, List.set_cons_zero, List.set_cons_succ]
          have hM2 := mk_grewR hM1 hgr2 (fun g e => (hA.lt g e).1)
          simp only [Nat.zero_add, List.nil_append] at hown2
          obtain ⟨A, C, rfl, hca, hcb⟩ := ownsRow_sliceR2 hown2
          clear hA hgr2 hat2 hca hcb
          refine wpAny_ready (rs := [3]) (by kernel_rfl) (by simp) ?_
          refine (AllReady.cons rfl (fun K hK => ?_) AllReady.nil)
          have d0 := HX1.out _ hM2
          go_simp
          refine hK _ _ ?_
          clear hK K
          try simp only [Act.put, List.getElem_toArray, List.getElem_cons_succ, List.getElem_cons_zero, List.setIfInBounds_toArray, List.set_cons_zero, List.set_cons_succ]
          clear d0
          refine wpAny_take (i := 8) (v := _) rfl (by kernel_rfl) (by kernel_rfl) (by kernel_rfl) (fun _ _ _ h => h) (Or.inl ⟨by rfl, fun w => by go_simp; try with_reducible rfl⟩) ?_
          try simp only [Act.put, List.getElem_toArray, List.getElem_cons_succ, List.getElem_cons_zero, List.setIfInBounds_toArray, List.set_cons_zero, List.set_cons_succ]
          refine wpAny_ready (rs := [9]) (by kernel_rfl) (by simp) ?_
          refine (AllReady.cons rfl (fun K hK => ?_) AllReady.nil)
          have q0 := HR0.out _ hM2
          have q1 := HR1.out _ hM2
          have q2 := HR2.out _ hM2
          have fq := HFR.out _ hM2
          go_simp
          refine hK _ _ ?_
          clear hK K
          try simp only [Act.put, List.getElem_toArray, List.getElem_cons_succ, List.getElem_cons_zero, List.setIfInBounds_toArray, List.set_cons_zero, List.set_cons_succ]
          refine wpAny_done (by kernel_rfl) ?_ _
          refine ‹∀ (a : Act) (w : World), _ → _› _ _ ?_
          have zz2 := hM2.size
          have M2 := M0.trans hM2
          have r0 := HR0.out _ hM2
          have r1 := HR1.out _ hM2
          have r2 := HR2.out _ hM2
          clear HX0 HX1 HX2 HR0 HR1 HR2 HFR HH
          go_wp2_with fail
          replace r0 := World.cell?_setCell_same _ _ (.int .i64 x0) r0
          replace r1 := cell_set r1 ⟨w.heap.size + 1, 0, none⟩ (.int .i64 x0) (.inr (by simp))
          replace r2 := cell_set r2 ⟨w.heap.size + 1, 0, none⟩ (.int .i64 x0) (.inr (by simp))
          replace hown2 := own_put hown2 ⟨w.heap.size + 1, 0, none⟩ (.int .i64 x0) (show w.heap.size + 1 < _ from by omega)
          replace M2 := M2.put ⟨w.heap.size + 1, 0, none⟩ (.int .i64 x0) (show w.heap.size ≤ w.heap.size + 1 from by omega)
          replace r0 := cell_set r0 ⟨w.heap.size + 1, 1, none⟩ (.int .i64 x1) (.inr (by simp))
          replace r1 := World.cell?_setCell_same _ _ (.int .i64 x1) r1
          replace r2 := cell_set r2 ⟨w.heap.size + 1, 1, none⟩ (.int .i64 x1) (.inr (by simp))
          replace hown2 := own_put hown2 ⟨w.heap.size + 1, 1, none⟩ (.int .i64 x1) (show w.heap.size + 1 < _ from by omega)
          replace M2 := M2.put ⟨w.heap.size + 1, 1, none⟩ (.int .i64 x1) (show w.heap.size ≤ w.heap.size + 1 from by omega)
          replace r0 := cell_set r0 ⟨w.heap.size + 1, 2, none⟩ (.slice A n C) (.inr (by simp))
          replace r1 := cell_set r1 ⟨w.heap.size + 1, 2, none⟩ (.slice A n C) (.inr (by simp))
          replace r2 := World.cell?_setCell_same _ _ (.slice A n C) r2
          replace hown2 := own_put hown2 ⟨w.heap.size + 1, 2, none⟩ (.slice A n C) (show w.heap.size + 1 < _ from by omega)
          replace M2 := M2.put ⟨w.heap.size + 1, 2, none⟩ (.slice A n C) (show w.heap.size ≤ w.heap.size + 1 from by omega)
          generalize (((u2.setCell ⟨w.heap.size + 1, 0, none⟩ (.int .i64 x0)).setCell ⟨w.heap.size + 1, 1, none⟩ (.int .i64 x1)).setCell ⟨w.heap.size + 1, 2, none⟩ (.slice A n C)) = WF at *
          exact bodyPost_ret (v := .agg #[.int .i64 x0, .int .i64 x1, .slice A n C]) (by simp [results, Try.results38, go_sem, r0, r1, r2]) rfl ⟨_, _, _, rfl, own_lowR hown2 (by omega), M2⟩
    · have d0 := HX2.out _ hM0
      go_simp
      refine hK _ _ ?_
      clear hK K
      try simp only [Act.put, List.getElem_toArray, List.getElem_cons_succ, List.getElem_cons_zero, List.setIfInBounds_toArray, List.set_cons_zero, List.set_cons_succ]
      clear d0
      refine wpAny_ready (rs := [3, 4]) (by kernel_rfl) (by simp) ?_
      refine (AllReady.cons rfl (fun K hK => ?_) (AllReady.cons rfl (fun K hK => ?_) AllReady.nil))
      · have d0 := HX1.out _ hM0
        go_simp
        refine hK _ _ ?_
        clear hK K
        try simp only [Act.put, List.getElem_toArray, List.getElem_cons_succ, List.getElem_cons_zero, List.setIfInBounds_toArray, List.set_cons_zero, List.set_cons_succ]
        clear d0
        refine wpAny_ready (rs := [4]) (by kernel_rfl) (by simp) ?_
        refine (AllReady.cons rfl (fun K hK => ?_) AllReady.nil)
        go_simp
        refine hK _ _ ?_
        clear hK K
        try simp only [Act.put, List.getElem_toArray, List.getElem_cons_succ, List.getElem_cons_zero, List.setIfInBounds_toArray, List.set_cons_zero, List.set_cons_succ]
        have hA := own_emptyR u0 115 5
        have hM1 : Mk0 WW (u0.alloc (.cells #[] 115)) := hM0.new _
        replace hA := own_lowR hA hM0.size
        generalize u0.alloc (.cells #[] 115) = u1 at *
        refine wpAny_ready (rs := [7]) (by kernel_rfl) (by simp) ?_
        refine (AllReady.cons rfl (fun K hK => ?_) AllReady.nil)
        refine step_appR (nc := 5) (cell := THop.cell) (by decide) oneHopC (by rfl) (.tmp 7) (.tmp 9) 80 (by rfl) WW.heap.size 115 i0 _ Try.underlying80 hi0 hz0 rfl hz1 (by rw [hz2]; decide) _ [] 0 (by rfl) hA a n c zs (by rfl) HC.out ((HH.out _ hM1).mono (Nat.le_trans hB (M0.trans hM1).size)) (by omega) hM1.size ?_
        intro v2 u2 hown2 hgr2 hat2
        refine hK _ _ ?_
        clear hK K
        try simp only [Act.put, List.getElem_toArray, List.getElem_cons_succ, List.getElem_cons_zero, List.setIfInBounds_toArray, List.set_cons_zero, List.set_cons_succ]
        have hM2 := mk_grewR hM1 hgr2 (fun g e => (hA.lt g e).1)
        simp only [Nat.zero_add, List.nil_append] at hown2
        obtain ⟨A, C, rfl, hca, hcb⟩ := ownsRow_sliceR2 hown2
        clear hA hgr2 hat2 hca hcb
        refine wpAny_take (i := 8) (v := _) rfl (by kernel_rfl) (by kernel_rfl) (by kernel_rfl) (fun _ _ _ h => h) (Or.inl ⟨by rfl, fun w => by go_simp; try with_reducible rfl⟩) ?_
        try simp only [Act.put, List.getElem_toArray, List.getElem_cons_succ, List.getElem_cons_zero, List.setIfInBounds_toArray, List.set_cons_zero, List.set_cons_succ]
        refine wpAny_ready (rs := [9]) (by kernel_rfl) (by simp) ?_
        refine (AllReady.cons rfl (fun K hK => ?_) AllReady.nil)
        have q0 := HR0.out _ hM2
        have q1 := HR1.out _ hM2
        have q2 := HR2.out _ hM2
        have fq := HFR.out _ hM2
        go_simp
        refine hK _ _ ?_
        clear hK K
        try simp only [Act.put, List.getElem_toArray, List.getElem_cons_succ, List.getElem_cons_zero, List.setIfInBounds_toArray, List.set_cons_zero, List.set_cons_succ]
        refine wpAny_done (by kernel_rfl) ?_ _
        refine ‹∀ (a : Act) (w : World), _ → _› _ _ ?_
        have zz2 := hM2.size
        have M2 := M0.trans hM2
        have r0 := HR0.out _ hM2
        have r1 := HR1.out _ hM2
        have r2 := HR2.out _ hM2
        clear HX0 HX1 HX2 HR0 HR1 HR2 HFR HH
        go_wp2_with fail
        replace r0 := World.cell?_setCell_same _ _ (.int .i64 x0) r0
        replace r1 := cell_set r1 ⟨w.heap.size + 1, 0, none⟩ (.int .i64 x0) (.inr (by simp))
        replace r2 := cell_set r2 ⟨w.heap.size + 1, 0, none⟩ (.int .i64 x0) (.inr (by simp))
        replace hown2 := own_put hown2 ⟨w.heap.size + 1, 0, none⟩ (.int .i64 x0) (show w.heap.size + 1 < _ from by omega)
        replace M2 := M2.put ⟨w.heap.size + 1, 0, none⟩ (.int .i64 x0) (show w.heap.size ≤ w.heap.size + 1 from by omega)
        replace r0 := cell_set r0 ⟨w.heap.size + 1, 1, none⟩ (.int .i64 x1) (.inr (by simp))
        replace r1 := World.cell?_setCell_same _ _ (.int .i64 x1) r1
        replace r2 := cell_set r2 ⟨w.heap.size + 1, 1, none⟩ (.int .i64 x1) (.inr (by simp))
        replace hown2 := own_put hown2 ⟨w.heap.size + 1, 1, none⟩ (.int .i64 x1) (show w.heap.size + 1 < _ from by omega)
        replace M2 := M2.put ⟨w.heap.size + 1, 1, none⟩ (.int .i64 x1) (show w.heap.size ≤ w.heap.size + 1 from by omega)
        replace r0 := cell_set r0 ⟨w.heap.size + 1, 2, none⟩ (.slice A n C) (.inr (by simp))
        replace r1 := cell_set r1 ⟨w.heap.size + 1, 2, none⟩ (.slice A n C) (.inr (by simp))
        replace r2 := World.cell?_setCell_same _ _ (.slice A n C) r2
        replace hown2 := own_put hown2 ⟨w.heap.size + 1, 2, none⟩ (.slice A n C) (show w.heap.size + 1 < _ from by omega)
        replace M2 := M2.put ⟨w.heap.size + 1, 2, none⟩ (.slice A n C) (show w.heap.size ≤ w.heap.size + 1 from by omega)
        generalize (((u2.setCell ⟨w.heap.size + 1, 0, none⟩ (.int .i64 x0)).setCell ⟨w.heap.size + 1, 1, none⟩ (.int .i64 x1)).setCell ⟨w.heap.size + 1, 2, none⟩ (.slice A n C)) = WF at *
        exact bodyPost_ret (v := .agg #[.int .i64 x0, .int .i64 x1, .slice A n C]) (by simp [results, Try.results38, go_sem, r0, r1, r2]) rfl ⟨_, _, _, rfl, own_lowR hown2 (by omega), M2⟩
      · go_simp
        refine hK _ _ ?_
        clear hK K
        try simp only [Act.put, List.getElem_toArray, List.getElem_cons_succ, List.getElem_cons_zero, List.setIfInBounds_toArray, List.set_cons_zero, List.set_cons_succ]
        have hA := own_emptyR u0 115 5
        have hM1 : Mk0 WW (u0.alloc (.cells #[] 115)) := hM0.new _
        replace hA := own_lowR hA hM0.size
        generalize u0.alloc (.cells #[] 115) = u1 at *
        refine wpAny_ready (rs := [3, 7]) (by kernel_rfl) (by simp) ?_
        refine (AllReady.cons rfl (fun K hK => ?_) (AllReady.cons rfl (fun K hK => ?_) AllReady.nil))
        · have d0 := HX1.out _ hM1
          go_simp
          refine hK _ _ ?_
          clear hK K
          try simp only [Act.put, List.getElem_toArray, List.getElem_cons_succ, List.getElem_cons_zero, List.setIfInBounds_toArray, List.set_cons_zero, List.set_cons_succ]
          clear d0
          refine wpAny_ready (rs := [7]) (by kernel_rfl) (by simp) ?_
          refine (AllReady.cons rfl (fun K hK => ?_) AllReady.nil)
          refine step_appR (nc := 5) (cell := THop.cell) (by decide) oneHopC (by rfl) (.tmp 7) (.tmp 9) 80 (by rfl) WW.heap.size 115 i0 _ Try.underlying80 hi0 hz0 rfl hz1 (by rw [hz2]; decide) _ [] 0 (by rfl) hA a n c zs (by rfl) HC.out ((HH.out _ hM1).mono (Nat.le_trans hB (M0.trans hM1).size)) (by omega) hM1.size ?_
          intro v2 u2 hown2 hgr2 hat2
          refine hK _ _ ?_
          clear hK K
          try simp only [Act.put, List.getElem_toArray, List.getElem_cons_succ, List.getElem_cons_zero, List.setIfInBounds_toArray, List.set_cons_zero, List.set_cons_succ]
          have hM2 := mk_grewR hM1 hgr2 (fun g e => (hA.lt g e).1)
          simp only [Nat.zero_add, List.nil_append] at hown2
          obtain ⟨A, C, rfl, hca, hcb⟩ := ownsRow_sliceR2 hown2
          clear hA hgr2 hat2 hca hcb
          refine wpAny_take (i := 8) (v := _) rfl (by kernel_rfl) (by kernel_rfl) (by kernel_rfl) (fun _ _ _ h => h) (Or.inl ⟨by rfl, fun w => by go_simp; try with_reducible rfl⟩) ?_
          try simp only [Act.put, List.getElem_toArray, List.getElem_cons_succ, List.getElem_cons_zero, List.setIfInBounds_toArray, List.set_cons_zero, List.set_cons_succ]
          refine wpAny_ready (rs := [9]) (by kernel_rfl) (by simp) ?_
          refine (AllReady.cons rfl (fun K hK => ?_) AllReady.nil)
          have q0 := HR0.out _ hM2
          have q1 := HR1.out _ hM2
          have q2 := HR2.out _ hM2
          have fq := HFR.out _ hM2
          go_simp
          refine hK _ _ ?_
          clear hK K
          try simp only [Act.put, List.getElem_toArray, List.getElem_cons_succ, List.getElem_cons_zero, List.setIfInBounds_toArray, List.set_cons_zero, List.set_cons_succ]
          refine wpAny_done (by kernel_rfl) ?_ _
          refine ‹∀ (a : Act) (w : World), _ → _› _ _ ?_
          have zz2 := hM2.size
          have M2 := M0.trans hM2
          have r0 := HR0.out _ hM2
          have r1 := HR1.out _ hM2
          have r2 := HR2.out _ hM2
          clear HX0 HX1 HX2 HR0 HR1 HR2 HFR HH
          go_wp2_with fail
          replace r0 := World.cell?_setCell_same _ _ (.int .i64 x0) r0
          replace r1 := cell_set r1 ⟨w.heap.size + 1, 0, none⟩ (.int .i64 x0) (.inr (by simp))
          replace r2 := cell_set r2 ⟨w.heap.size + 1, 0, none⟩ (.int .i64 x0) (.inr (by simp))
          replace hown2 := own_put hown2 ⟨w.heap.size + 1, 0, none⟩ (.int .i64 x0) (show w.heap.size + 1 < _ from by omega)
          replace M2 := M2.put ⟨w.heap.size + 1, 0, none⟩ (.int .i64 x0) (show w.heap.size ≤ w.heap.size + 1 from by omega)
          replace r0 := cell_set r0 ⟨w.heap.size + 1, 1, none⟩ (.int .i64 x1) (.inr (by simp))
          replace r1 := World.cell?_setCell_same _ _ (.int .i64 x1) r1
          replace r2 := cell_set r2 ⟨w.heap.size + 1, 1, none⟩ (.int .i64 x1) (.inr (by simp))
          replace hown2 := own_put hown2 ⟨w.heap.size + 1, 1, none⟩ (.int .i64 x1) (show w.heap.size + 1 < _ from by omega)
          replace M2 := M2.put ⟨w.heap.size + 1, 1, none⟩ (.int .i64 x1) (show w.heap.size ≤ w.heap.size + 1 from by omega)
          replace r0 := cell_set r0 ⟨w.heap.size + 1, 2, none⟩ (.slice A n C) (.inr (by simp))
          replace r1 := cell_set r1 ⟨w.heap.size + 1, 2, none⟩ (.slice A n C) (.inr (by simp))
          replace r2 := World.cell?_setCell_same _ _ (.slice A n C) r2
          replace hown2 := own_put hown2 ⟨w.heap.size + 1, 2, none⟩ (.slice A n C) (show w.heap.size + 1 < _ from by omega)
          replace M2 := M2.put ⟨w.heap.size + 1, 2, none⟩ (.slice A n C) (show w.heap.size ≤ w.heap.size + 1 from by omega)
          generalize (((u2.setCell ⟨w.heap.size + 1, 0, none⟩ (.int .i64 x0)).setCell ⟨w.heap.size + 1, 1, none⟩ (.int .i64 x1)).setCell ⟨w.heap.size + 1, 2, none⟩ (.slice A n C)) = WF at *
          exact bodyPost_ret (v := .agg #[.int .i64 x0, .int .i64 x1, .slice A n C]) (by simp [results, Try.results38, go_sem, r0, r1, r2]) rfl ⟨_, _, _, rfl, own_lowR hown2 (by omega), M2⟩
        · refine step_appR (nc := 5) (cell := THop.cell) (by decide) oneHopC (by rfl) (.tmp 7) (.tmp 9) 80 (by rfl) WW.heap.size 115 i0 _ Try.underlying80 hi0 hz0 rfl hz1 (by rw [hz2]; decide) _ [] 0 (by rfl) hA a n c zs (by rfl) HC.out ((HH.out _ hM1).mono (Nat.le_trans hB (M0.trans hM1).size)) (by omega) hM1.size ?_
          intro v2 u2 hown2 hgr2 hat2
          refine hK _ _ ?_
          clear hK K
          try simp only [Act.put, List.getElem_toArray, List.getElem_cons_succ, List.getElem_cons_zero, List.setIfInBounds_toArray, List.set_cons_zero, List.set_cons_succ]
          have hM2 := mk_grewR hM1 hgr2 (fun g e => (hA.lt g e).1)
          simp only [Nat.zero_add, List.nil_append] at hown2
          obtain ⟨A, C, rfl, hca, hcb⟩ := ownsRow_sliceR2 hown2
          clear hA hgr2 hat2 hca hcb
          refine wpAny_ready (rs := [3]) (by kernel_rfl) (by simp) ?_
          refine (AllReady.cons rfl (fun K hK => ?_) AllReady.nil)
          have d0 := HX1.out _ hM2
          go_simp
          refine hK _ _ ?_
          clear hK K
          try simp only [Act.put, List.getElem_toArray, List.getElem_cons_succ, List.getElem_cons_zero, List.setIfInBounds_toArray, List.set_cons_zero, List.set_cons_succ]
          clear d0
          refine wpAny_take (i := 8) (v := _) rfl (by kernel_rfl) (by kernel_rfl) (by kernel_rfl) (fun _ _ _ h => h) (Or.inl ⟨by rfl, fun w => by go_simp; try with_reducible rfl⟩) ?_
          try simp only [Act.put, List.getElem_toArray, List.getElem_cons_succ, List.getElem_cons_zero, List.setIfInBounds_toArray, List.set_cons_zero, List.set_cons_succ]
          refine wpAny_ready (rs := [9]) (by kernel_rfl) (by simp) ?_
          refine (AllReady.cons rfl (fun K hK => ?_) AllReady.nil)
          have q0 := HR0.out _ hM2
          have q1 := HR1.out _ hM2
          have q2 := HR2.out _ hM2
          have fq := HFR.out _ hM2
          go_simp
          refine hK _ _ ?_
          clear hK K
          try simp only [Act.put, List.getElem_toArray, List.getElem_cons_succ, List.getElem_cons_zero, List.setIfInBounds_toArray, List.set_cons_zero, List.set_cons_succ]
          refine wpAny_done (by kernel_rfl) ?_ _
          refine ‹∀ (a : Act) (w : World), _ → _› _ _ ?_
          have zz2 := hM2.size
          have M2 := M0.trans hM2
          have r0 := HR0.out _ hM2
          have r1 := HR1.out _ hM2
          have r2 := HR2.out _ hM2
          clear HX0 HX1 HX2 HR0 HR1 HR2 HFR HH
          go_wp2_with fail
          replace r0 := World.cell?_setCell_same _ _ (.int .i64 x0) r0
          replace r1 := cell_set r1 ⟨w.heap.size + 1, 0, none⟩ (.int .i64 x0) (.inr (by simp))
          replace r2 := cell_set r2 ⟨w.heap.size + 1, 0, none⟩ (.int .i64 x0) (.inr (by simp))
          replace hown2 := own_put hown2 ⟨w.heap.size + 1, 0, none⟩ (.int .i64 x0) (show w.heap.size + 1 < _ from by omega)
          replace M2 := M2.put ⟨w.heap.size + 1, 0, none⟩ (.int .i64 x0) (show w.heap.size ≤ w.heap.size + 1 from by omega)
          replace r0 := cell_set r0 ⟨w.heap.size + 1, 1, none⟩ (.int .i64 x1) (.inr (by simp))
          replace r1 := World.cell?_setCell_same _ _ (.int .i64 x1) r1
          replace r2 := cell_set r2 ⟨w.heap.size + 1, 1, none⟩ (.int .i64 x1) (.inr (by simp))
          replace hown2 := own_put hown2 ⟨w.heap.size + 1, 1, none⟩ (.int .i64 x1) (show w.heap.size + 1 < _ from by omega)
          replace M2 := M2.put ⟨w.heap.size + 1, 1, none⟩ (.int .i64 x1) (show w.heap.size ≤ w.heap.size + 1 from by omega)
          replace r0 := cell_set r0 ⟨w.heap.size + 1, 2, none⟩ (.slice A n C) (.inr (by simp))
          replace r1 := cell_set r1 ⟨w.heap.size + 1, 2, none⟩ (.slice A n C) (.inr (by simp))
          replace r2 := World.cell?_setCell_same _ _ (.slice A n C) r2
          replace hown2 := own_put hown2 ⟨w.heap.size + 1, 2, none⟩ (.slice A n C) (show w.heap.size + 1 < _ from by omega)
          replace M2 := M2.put ⟨w.heap.size + 1, 2, none⟩ (.slice A n C) (show w.heap.size ≤ w.heap.size + 1 from by omega)
          generalize (((u2.setCell ⟨w.heap.size + 1, 0, none⟩ (.int .i64 x0)).setCell ⟨w.heap.size + 1, 1, none⟩ (.int .i64 x1)).setCell ⟨w.heap.size + 1, 2, none⟩ (.slice A n C)) = WF at *
          exact bodyPost_ret (v := .agg #[.int .i64 x0, .int .i64 x1, .slice A n C]) (by simp [results, Try.results38, go_sem, r0, r1, r2]) rfl ⟨_, _, _, rfl, own_lowR hown2 (by omega), M2⟩
  · have d0 := HX1.out _ hM0
    go_simp
    refine hK _ _ ?_
    clear hK K
    try simp only [Act.put, List.getElem_toArray, List.getElem_cons_succ, List.getElem_cons_zero, List.setIfInBounds_toArray, List.set_cons_zero, List.set_cons_succ]
    clear d0
    refine wpAny_ready (rs := [1, 4, 6]) (by kernel_rfl) (by simp) ?_
    refine (AllReady.cons rfl (fun K hK => ?_) (AllReady.cons rfl (fun K hK => ?_) (AllReady.cons rfl (fun K hK => ?_) AllReady.nil)))
    · have d0 := HX0.out _ hM0
      go_simp
      refine hK _ _ ?_
      clear hK K
      try simp only [Act.put, List.getElem_toArray, List.getElem_cons_succ, List.getElem_cons_zero, List.setIfInBounds_toArray, List.set_cons_zero, List.set_cons_succ]
      clear d0
      refine wpAny_ready (rs := [4, 6]) (by kernel_rfl) (by simp) ?_
      refine (AllReady.cons rfl (fun K hK => ?_) (AllReady.cons rfl (fun K hK => ?_) AllReady.nil))
      · go_simp
        refine hK _ _ ?_
        clear hK K
        try simp only [Act.put, List.getElem_toArray, List.getElem_cons_succ, List.getElem_cons_zero, List.setIfInBounds_toArray, List.set_cons_zero, List.set_cons_succ]
        have hA := own_emptyR u0 115 5
        have hM1 : Mk0 WW (u0.alloc (.cells #[] 115)) := hM0.new _
        replace hA := own_lowR hA hM0.size
        generalize u0.alloc (.cells #[] 115) = u1 at *
        refine wpAny_ready (rs := [6]) (by kernel_rfl) (by simp) ?_
        refine (AllReady.cons rfl (fun K hK => ?_) AllReady.nil)
        have d0 := HX2.out _ hM1
        go_simp
        refine hK _ _ ?_
        clear hK K
        try simp only [Act.put, List.getElem_toArray, List.getElem_cons_succ, List.getElem_cons_zero, List.setIfInBounds_toArray, List.set_cons_zero, List.set_cons_succ]
        clear d0
        refine wpAny_ready (rs := [7]) (by kernel_rfl) (by simp) ?_
        refine (AllReady.cons rfl (fun K hK => ?_) AllReady.nil)
        refine step_appR (nc := 5) (cell := THop.cell) (by decide) oneHopC (by rfl) (.tmp 7) (.tmp 9) 80 (by rfl) WW.heap.size 115 i0 _ Try.underlying80 hi0 hz0 rfl hz1 (by rw [hz2]; decide) _ [] 0 (by rfl) hA a n c zs (by rfl) HC.out ((HH.out _ hM1).mono (Nat.le_trans hB (M0.trans hM1).size)) (by omega) hM1.size ?_
        intro v2 u2 hown2 hgr2 hat2
        refine hK _ _ ?_
        clear hK K
        try simp only [Act.put, List.getElem_toArray, List.getElem_cons_succ, List.getElem_cons_zero, List.setIfInBounds_toArray, List.set_cons_zero, List.set_cons_succ]
        have hM2 := mk_grewR hM1 hgr2 (fun g e => (hA.lt g e).1)
        simp only [Nat.zero_add, List.nil_append] at hown2
        obtain ⟨A, C, rfl, hca, hcb⟩ := ownsRow_sliceR2 hown2
        clear hA hgr2 hat2 hca hcb
        refine wpAny_take (i := 8) (v := _) rfl (by kernel_rfl) (by kernel_rfl) (by kernel_rfl) (fun _ _ _ h => h) (Or.inl ⟨by rfl, fun w => by go_simp; try with_reducible rfl⟩) ?_
        try simp only [Act.put, List.getElem_toArray, List.getElem_cons_succ, List.getElem_cons_zero, List.setIfInBounds_toArray, List.set_cons_zero, List.set_cons_succ]
        refine wpAny_ready (rs := [9]) (by kernel_rfl) (by simp) ?_
        refine (AllReady.cons rfl (fun K hK => ?_) AllReady.nil)
        have q0 := HR0.out _ hM2
        have q1 := HR1.out _ hM2
        have q2 := HR2.out _ hM2
        have fq := HFR.out _ hM2
        go_simp
        refine hK _ _ ?_
        clear hK K
        try simp only [Act.put, List.getElem_toArray, List.getElem_cons_succ, List.getElem_cons_zero, List.setIfInBounds_toArray, List.set_cons_zero, List.set_cons_succ]
        refine wpAny_done (by kernel_rfl) ?_ _
        refine ‹∀ (a : Act) (w : World), _ → _› _ _ ?_
        have zz2 := hM2.size
        have M2 := M0.trans hM2
        have r0 := HR0.out _ hM2
        have r1 := HR1.out _ hM2
        have r2 := HR2.out _ hM2
        clear HX0 HX1 HX2 HR0 HR1 HR2 HFR HH
        go_wp2_with fail
        replace r0 := World.cell?_setCell_same _ _ (.int .i64 x0) r0
        replace r1 := cell_set r1 ⟨w.heap.size + 1, 0, none⟩ (.int .i64 x0) (.inr (by simp))
        replace r2 := cell_set r2 ⟨w.heap.size + 1, 0, none⟩ (.int .i64 x0) (.inr (by simp))
        replace hown2 := own_put hown2 ⟨w.heap.size + 1, 0, none⟩ (.int .i64 x0) (show w.heap.size + 1 < _ from by omega)
        replace M2 := M2.put ⟨w.heap.size + 1, 0, none⟩ (.int .i64 x0) (show w.heap.size ≤ w.heap.size + 1 from by omega)
        replace r0 := cell_set r0 ⟨w.heap.size + 1, 1, none⟩ (.int .i64 x1) (.inr (by simp))
        replace r1 := World.cell?_setCell_same _ _ (.int .i64 x1) r1
        replace r2 := cell_set r2 ⟨w.heap.size + 1, 1, none⟩ (.int .i64 x1) (.inr (by simp))
        replace hown2 := own_put hown2 ⟨w.heap.size + 1, 1, none⟩ (.int .i64 x1) (show w.heap.size + 1 < _ from by omega)
        replace M2 := M2.put ⟨w.heap.size + 1, 1, none⟩ (.int .i64 x1) (show w.heap.size ≤ w.heap.size + 1 from by omega)
        replace r0 := cell_set r0 ⟨w.heap.size + 1, 2, none⟩ (.slice A n C) (.inr (by simp))
        replace r1 := cell_set r1 ⟨w.heap.size + 1, 2, none⟩ (.slice A n C) (.inr (by simp))
        replace r2 := World.cell?_setCell_same _ _ (.slice A n C) r2
        replace hown2 := own_put hown2 ⟨w.heap.size + 1, 2, none⟩ (.slice A n C) (show w.heap.size + 1 < _ from by omega)
        replace M2 := M2.put ⟨w.heap.size + 1, 2, none⟩ (.slice A n C) (show w.heap.size ≤ w.heap.size + 1 from by omega)
        generalize (((u2.setCell ⟨w.heap.size + 1, 0, none⟩ (.int .i64 x0)).setCell ⟨w.heap.size + 1, 1, none⟩ (.int .i64 x1)).setCell ⟨w.heap.size + 1, 2, none⟩ (.slice A n C)) = WF at *
        exact bodyPost_ret (v := .agg #[.int .i64 x0, .int .i64 x1, .slice A n C]) (by simp [results, Try.results38, go_sem, r0, r1, r2]) rfl ⟨_, _, _, rfl, own_lowR hown2 (by omega), M2⟩
      · have d0 := HX2.out _ hM0
        go_simp
        refine hK _ _ ?_
        clear hK K
        try simp only [Act.put, List.getElem_toArray, List.getElem_cons_succ, List.getElem_cons_zero, List.setIfInBounds_toArray, List.set_cons_zero, List.set_cons_succ]
        clear d0
        refine wpAny_ready (rs := [4]) (by kernel_rfl) (by simp) ?_
        refine (AllReady.cons rfl (fun K hK => ?_) AllReady.nil)
        go_simp
        refine hK _ _ ?_
        clear hK K
        try simp only [Act.put, List.getElem_toArray, List.getElem_cons_succ, List.getElem_cons_zero, List.setIfInBounds_toArray, List.set_cons_zero, List.set_cons_succ]
        have hA := own_emptyR u0 115 5
        have hM1 : Mk0 WW (u0.alloc (.cells #[] 115)) := hM0.new _
        replace hA := own_lowR hA hM0.size
        generalize u0.alloc (.cells #[] 115) = u1 at *
        refine wpAny_ready (rs := [7]) (by kernel_rfl) (by simp) ?_
        refine (AllReady.cons rfl (fun K hK => ?_) AllReady.nil)
        refine step_appR (nc := 5) (cell := THop.cell) (by decide) oneHopC (by rfl) (.tmp 7) (.tmp 9) 80 (by rfl) WW.heap.size 115 i0 _ Try.underlying80 hi0 hz0 rfl hz1 (by rw [hz2]; decide) _ [] 0 (by rfl) hA a n c zs (by rfl) HC.out ((HH.out _ hM1).mono (Nat.le_trans hB (M0.trans hM1).size)) (by omega) hM1.size ?_
        intro v2 u2 hown2 hgr2 hat2
        refine hK _ _ ?_
        clear hK K
        try simp only [Act.put, List.getElem_toArray, List.getElem_cons_succ, List.getElem_cons_zero, List.setIfInBounds_toArray, List.set_cons_zero, List.set_cons_succ]
        have hM2 := mk_grewR hM1 hgr2 (fun g e => (hA.lt g e).1)
        simp only [Nat.zero_add, List.nil_append] at hown2
        obtain ⟨A, C, rfl, hca, hcb⟩ := ownsRow_sliceR2 hown2
        clear hA hgr2 hat2 hca hcb
        refine wpAny_take (i := 8) (v := _) rfl (by kernel_rfl) (by kernel_rfl) (by kernel_rfl) (fun _ _ _ h => h) (Or.inl ⟨by rfl, fun w => by go_simp; try with_reducible rfl⟩) ?_
        try simp only [Act.put, List.getElem_toArray, List.getElem_cons_succ, List.getElem_cons_zero, List.setIfInBounds_toArray, List.set_cons_zero, List.set_cons_succ]
        refine wpAny_ready (rs := [9]) (by kernel_rfl) (by simp) ?_
        refine (AllReady.cons rfl (fun K hK => ?_) AllReady.nil)
        have q0 := HR0.out _ hM2
        have q1 := HR1.out _ hM2
        have q2 := HR2.out _ hM2
        have fq := HFR.out _ hM2
        go_simp
        refine hK _ _ ?_
        clear hK K
        try simp only [Act.put, List.getElem_toArray, List.getElem_cons_succ, List.getElem_cons_zero, List.setIfInBounds_toArray, List.set_cons_zero, List.set_cons_succ]
        refine wpAny_done (by kernel_rfl) ?_ _
        refine ‹∀ (a : Act) (w : World), _ → _› _ _ ?_
        have zz2 := hM2.size
        have M2 := M0.trans hM2
        have r0 := HR0.out _ hM2
        have r1 := HR1.out _ hM2
        have r2 := HR2.out _ hM2
        clear HX0 HX1 HX2 HR0 HR1 HR2 HFR HH
        go_wp2_with fail
        replace r0 := World.cell?_setCell_same _ _ (.int .i64 x0) r0
        replace r1 := cell_set r1 ⟨w.heap.size + 1, 0, none⟩ (.int .i64 x0) (.inr (by simp))
        replace r2 := cell_set r2 ⟨w.heap.size + 1, 0, none⟩ (.int .i64 x0) (.inr (by simp))
        replace hown2 := own_put hown2 ⟨w.heap.size + 1, 0, none⟩ (.int .i64 x0) (show w.heap.size + 1 < _ from by omega)
        replace M2 := M2.put ⟨w.heap.size + 1, 0, none⟩ (.int .i64 x0) (show w.heap.size ≤ w.heap.size + 1 from by omega)
        replace r0 := cell_set r0 ⟨w.heap.size + 1, 1, none⟩ (.int .i64 x1) (.inr (by simp))
        replace r1 := World.cell?_setCell_same _ _ (.int .i64 x1) r1
        replace r2 := cell_set r2 ⟨w.heap.size + 1, 1, none⟩ (.int .i64 x1) (.inr (by simp))
        replace hown2 := own_put hown2 ⟨w.heap.size + 1, 1, none⟩ (.int .i64 x1) (show w.heap.size + 1 < _ from by omega)
        replace M2 := M2.put ⟨w.heap.size + 1, 1, none⟩ (.int .i64 x1) (show w.heap.size ≤ w.heap.size + 1 from by omega)
        replace r0 := cell_set r0 ⟨w.heap.size + 1, 2, none⟩ (.slice A n C) (.inr (by simp))
        replace r1 := cell_set r1 ⟨w.heap.size + 1, 2, none⟩ (.slice A n C) (.inr (by simp))
        replace r2 := World.cell?_setCell_same _ _ (.slice A n C) r2
        replace hown2 := own_put hown2 ⟨w.heap.size + 1, 2, none⟩ (.slice A n C) (show w.heap.size + 1 < _ from by omega)
        replace M2 := M2.put ⟨w.heap.size + 1, 2, none⟩ (.slice A n C) (show w.heap.size ≤ w.heap.size + 1 from by omega)
        generalize (((u2.setCell ⟨w.heap.size + 1, 0, none⟩ (.int .i64 x0)).setCell ⟨w.heap.size + 1, 1, none⟩ (.int .i64 x1)).setCell ⟨w.heap.size + 1, 2, none⟩ (.slice A n C)) = WF at *
        exact bodyPost_ret (v := .agg #[.int .i64 x0, .int .i64 x1, .slice A n C]) (by simp [results, Try.results38, go_sem, r0, r1, r2]) rfl ⟨_, _, _, rfl, own_lowR hown2 (by omega), M2⟩
    · go_simp
      refine hK _ _ ?_
      clear hK K
      try simp only [Act.put, List.getElem_toArray, List.getElem_cons_succ, List.getElem_cons_zero, List.setIfInBounds_toArray, List.set_cons_zero, List.set_cons_succ]
      have hA := own_emptyR u0 115 5
      have hM1 : Mk0 WW (u0.alloc (.cells #[] 115)) := hM0.new _
      replace hA := own_lowR hA hM0.size
      generalize u0.alloc (.cells #[] 115) = u1 at *
      refine wpAny_ready (rs := [1, 6]) (by kernel_rfl) (by simp) ?_
      refine (AllReady.cons rfl (fun K hK => ?_) (AllReady.cons rfl (fun K hK => ?_) AllReady.nil))
      · have d0 := HX0.out _ hM1
        go_simp
        refine hK _ _ ?_
        clear hK K
        try simp only [Act.put, List.getElem_toArray, List.getElem_cons_succ, List.getElem_cons_zero, List.setIfInBounds_toArray, List.set_cons_zero, List.set_cons_succ]
        clear d0
        refine wpAny_ready (rs := [6]) (by kernel_rfl) (by simp) ?_
        refine (AllReady.cons rfl (fun K hK => ?_) AllReady.nil)
        have d0 := HX2.out _ hM1
        go_simp
        refine hK _ _ ?_
        clear hK K
        try simp only [Act.put, List.getElem_toArray, List.getElem_cons_succ, List.getElem_cons_zero, List.setIfInBounds_toArray, List.set_cons_zero, List.set_cons_succ]
        clear d0
        refine wpAny_ready (rs := [7]) (by kernel_rfl) (by simp) ?_
        refine (AllReady.cons rfl (fun K hK => ?_) AllReady.nil)
        refine step_appR (nc := 5) (cell := THop.cell) (by decide) oneHopC (by rfl) (.tmp 7) (.tmp 9) 80 (by rfl) WW.heap.size 115 i0 _ Try.underlying80 hi0 hz0 rfl hz1 (by rw [hz2]; decide) _ [] 0 (by rfl) hA a n c zs (by rfl) HC.out ((HH.out _ hM1).mono (Nat.le_trans hB (M0.trans hM1).size)) (by omega) hM1.size ?_
        intro v2 u2 hown2 hgr2 hat2
        refine hK _ _ ?_
        clear hK K
        try simp only [Act.put, List.getElem_toArray, List.getElem_cons_succ, List.getElem_cons_zero, List.setIfInBounds_toArray, List.set_cons_zero, List.set_cons_succ]
        have hM2 := mk_grewR hM1 hgr2 (fun g e => (hA.lt g e).1)
        simp only [Nat.zero_add, List.nil_append] at hown2
        obtain ⟨A, C, rfl, hca, hcb⟩ := ownsRow_sliceR2 hown2
        clear hA hgr2 hat2 hca hcb
        refine wpAny_take (i := 8) (v := _) rfl (by kernel_rfl) (by kernel_rfl) (by kernel_rfl) (fun _ _ _ h => h) (Or.inl ⟨by rfl, fun w => by go_simp; try with_reducible rfl⟩) ?_
        try simp only [Act.put, List.getElem_toArray, List.getElem_cons_succ, List.getElem_cons_zero, List.setIfInBounds_toArray, List.set_cons_zero, List.set_cons_succ]
        refine wpAny_ready (rs := [9]) (by kernel_rfl) (by simp) ?_
        refine (AllReady.cons rfl (fun K hK => ?_) AllReady.nil)
        have q0 := HR0.out _ hM2
        have q1 := HR1.out _ hM2
        have q2 := HR2.out _ hM2
        have fq := HFR.out _ hM2
        go_simp
        refine hK _ _ ?_
        clear hK K
        try simp only [Act.put, List.getElem_toArray, List.getElem_cons_succ, List.getElem_cons_zero, List.setIfInBounds_toArray, List.set_cons_zero, List.set_cons_succ]
        refine wpAny_done (by kernel_rfl) ?_ _
        refine ‹∀ (a : Act) (w : World), _ → _› _ _ ?_
        have zz2 := hM2.size
        have M2 := M0.trans hM2
        have r0 := HR0.out _ hM2
        have r1 := HR1.out _ hM2
        have r2 := HR2.out _ hM2
        clear HX0 HX1 HX2 HR0 HR1 HR2 HFR HH
        go_wp2_with fail
        replace r0 := World.cell?_setCell_same _ _ (.int .i64 x0) r0
        replace r1 := cell_set r1 ⟨w.heap.size + 1, 0, none⟩ (.int .i64 x0) (.inr (by simp))
        replace r2 := cell_set r2 ⟨w.heap.size + 1, 0, none⟩ (.int .i64 x0) (.inr (by simp))
        replace hown2 := own_put hown2 ⟨w.heap.size + 1, 0, none⟩ (.int .i64 x0) (show w.heap.size + 1 < _ from by omega)
        replace M2 := M2.put ⟨w.heap.size + 1, 0, none⟩ (.int .i64 x0) (show w.heap.size ≤ w.heap.size + 1 from by omega)
        replace r0 := cell_set r0 ⟨w.heap.size + 1, 1, none⟩ (.int .i64 x1) (.inr (by simp))
        replace r1 := World.cell?_setCell_same _ _ (.int .i64 x1) r1
        replace r2 := cell_set r2 ⟨w.heap.size + 1, 1, none⟩ (.int .i64 x1) (.inr (by simp))
        replace hown2 := own_put hown2 ⟨w.heap.size + 1, 1, none⟩ (.int .i64 x1) (show w.heap.size + 1 < _ from by omega)
        replace M2 := M2.put ⟨w.heap.size + 1, 1, none⟩ (.int .i64 x1) (show w.heap.size ≤ w.heap.size + 1 from by omega)
        replace r0 := cell_set r0 ⟨w.heap.size + 1, 2, none⟩ (.slice A n C) (.inr (by simp))
        replace r1 := cell_set r1 ⟨w.heap.size + 1, 2, none⟩ (.slice A n C) (.inr (by simp))
        replace r2 := World.cell?_setCell_same _ _ (.slice A n C) r2
        replace hown2 := own_put hown2 ⟨w.heap.size + 1, 2, none⟩ (.slice A n C) (show w.heap.size + 1 < _ from by omega)
        replace M2 := M2.put ⟨w.heap.size + 1, 2, none⟩ (.slice A n C) (show w.heap.size ≤ w.heap.size + 1 from by omega)
        generalize (((u2.setCell ⟨w.heap.size + 1, 0, none⟩ (.int .i64 x0)).setCell ⟨w.heap.size + 1, 1, none⟩ (.int .i64 x1)).setCell ⟨w.heap.size + 1, 2, none⟩ (.slice A n C)) = WF at *
        exact bodyPost_ret (v := .agg #[.int .i64 x0, .int .i64 x1, .slice A n C]) (by simp [results, Try.results38, go_sem, r0, r1, r2]) rfl ⟨_, _, _, rfl, own_lowR hown2 (by omega), M2⟩
      · have d0 := HX2.out _ hM1
        go_simp
        refine hK _ _ ?_
        clear hK K
        try simp only [Act.put, List.getElem_toArray, List.getElem_cons_succ, List.getElem_cons_zero, List.setIfInBounds_toArray, List.set_cons_zero, List.set_cons_succ]
        clear d0
        refine wpAny_ready (rs := [1, 7]) (by kernel_rfl) (by simp) ?_
        refine (AllReady.cons rfl (fun K hK => ?_) (AllReady.cons rfl (fun K hK => ?_) AllReady.nil))
        · have d0 := HX0.out _ hM1
          go_simp
          refine hK _ _ ?_
          clear hK K
          try simp only [Act.put, List.getElem_toArray, List.getElem_cons_succ, List.getElem_cons_zero, List.setIfInBounds_toArray, List.set_cons_zero, List.set_cons_succ]
          clear d0
          refine wpAny_ready (rs := [7]) (by kernel_rfl) (by simp) ?_
          refine (AllReady.cons rfl (fun K hK => ?_) AllReady.nil)
          refine step_appR (nc := 5) (cell := THop.cell) (by decide) oneHopC (by rfl) (.tmp 7) (.tmp 9) 80 (by rfl) WW.heap.size 115 i0 _ Try.underlying80 hi0 hz0 rfl hz1 (by rw [hz2]; decide) _ [] 0 (by rfl) hA a n c zs (by rfl) HC.out ((HH.out _ hM1).mono (Nat.le_trans hB (M0.trans hM1).size)) (by omega) hM1.size ?_
          intro v2 u2 hown2 hgr2 hat2
          refine hK _ _ ?_
          clear hK K
          try simp only [Act.put, List.getElem_toArray, List.getElem_cons_succ, List.getElem_cons_zero, List.setIfInBounds_toArray, List.set_cons_zero, List.set_cons_succ]
          have hM2 := mk_grewR hM1 hgr2 (fun g e => (hA.lt g e).1)
          simp only [Nat.zero_add, List.nil_append] at hown2
          obtain ⟨A, C, rfl, hca, hcb⟩ := ownsRow_sliceR2 hown2
          clear hA hgr2 hat2 hca hcb
          refine wpAny_take (i := 8) (v := _) rfl (by kernel_rfl) (by kernel_rfl) (by kernel_rfl) (fun _ _ _ h => h) (Or.inl ⟨by rfl, fun w => by go_simp; try with_reducible rfl⟩) ?_
          try simp only [Act.put, List.getElem_toArray, List.getElem_cons_succ, List.getElem_cons_zero, List.setIfInBounds_toArray, List.set_cons_zero, List.set_cons_succ]
          refine wpAny_ready (rs := [9]) (by kernel_rfl) (by simp) ?_
          refine (AllReady.cons rfl (fun K hK => ?_) AllReady.nil)
          have q0 := HR0.out _ hM2
          have q1 := HR1.out _ hM2
          have q2 := HR2.out _ hM2
          have fq := HFR.out _ hM2
          go_simp
          refine hK _ _ ?_
          clear hK K
          try simp only [Act.put, List.getElem_toArray, List.getElem_cons_succ, List.getElem_cons_zero, List.setIfInBounds_toArray, List.set_cons_zero, List.set_cons_succ]
          refine wpAny_done (by kernel_rfl) ?_ _
          refine ‹∀ (a : Act) (w : World), _ → _› _ _ ?_
          have zz2 := hM2.size
          have M2 := M0.trans hM2
          have r0 := HR0.out _ hM2
          have r1 := HR1.out _ hM2
          have r2 := HR2.out _ hM2
          clear HX0 HX1 HX2 HR0 HR1 HR2 HFR HH
          go_wp2_with fail
          replace r0 := World.cell?_setCell_same _ _ (.int .i64 x0) r0
          replace r1 := cell_set r1 ⟨w.heap.size + 1, 0, none⟩ (.int .i64 x0) (.inr (by simp))
          replace r2 := cell_set r2 ⟨w.heap.size + 1, 0, none⟩ (.int .i64 x0) (.inr (by simp))
          replace hown2 := own_put hown2 ⟨w.heap.size + 1, 0, none⟩ (.int .i64 x0) (show w.heap.size + 1 < _ from by omega)
          replace M2 := M2.put ⟨w.heap.size + 1, 0, none⟩ (.int .i64 x0) (show w.heap.size ≤ w.heap.size + 1 from by omega)
          replace r0 := cell_set r0 ⟨w.heap.size + 1, 1, none⟩ (.int .i64 x1) (.inr (by simp))
          replace r1 := World.cell?_setCell_same _ _ (.int .i64 x1) r1
          replace r2 := cell_set r2 ⟨w.heap.size + 1, 1, none⟩ (.int .i64 x1) (.inr (by simp))
          replace hown2 := own_put hown2 ⟨w.heap.size + 1, 1, none⟩ (.int .i64 x1) (show w.heap.size + 1 < _ from by omega)
          replace M2 := M2.put ⟨w.heap.size + 1, 1, none⟩ (.int .i64 x1) (show w.heap.size ≤ w.heap.size + 1 from by omega)
          replace r0 := cell_set r0 ⟨w.heap.size + 1, 2, none⟩ (.slice A n C) (.inr (by simp))
          replace r1 := cell_set r1 ⟨w.heap.size + 1, 2, none⟩ (.slice A n C) (.inr (by simp))
          replace r2 := World.cell?_setCell_same _ _ (.slice A n C) r2
          replace hown2 := own_put hown2 ⟨w.heap.size + 1, 2, none⟩ (.slice A n C) (show w.heap.size + 1 < _ from by omega)
          replace M2 := M2.put ⟨w.heap.size + 1, 2, none⟩ (.slice A n C) (show w.heap.size ≤ w.heap.size + 1 from by omega)
          generalize (((u2.setCell ⟨w.heap.size + 1, 0, none⟩ (.int .i64 x0)).setCell ⟨w.heap.size + 1, 1, none⟩ (.int .i64 x1)).setCell ⟨w.heap.size + 1, 2, none⟩ (.slice A n C)) = WF at *
          exact bodyPost_ret (v := .agg #[.int .i64 x0, .int .i64 x1, .slice A n C]) (by simp [results, Try.results38, go_sem, r0, r1, r2]) rfl ⟨_, _, _, rfl, own_lowR hown2 (by omega), M2⟩
        · refine step_appR (nc := 5) (cell := THop.cell) (by decide) oneHopC (by rfl) (.tmp 7) (.tmp 9) 80 (by rfl) WW.heap.size 115 i0 _ Try.underlying80 hi0 hz0 rfl hz1 (by rw [hz2]; decide) _ [] 0 (by rfl) hA a n c zs (by rfl) HC.out ((HH.out _ hM1).mono (Nat.le_trans hB (M0.trans hM1).size)) (by omega) hM1.size ?_
          intro v2 u2 hown2 hgr2 hat2
          refine hK _ _ ?_
          clear hK K
          try simp only [Act.put, List.getElem_toArray, List.getElem_cons_succ, List.getElem_cons_zero, List.setIfInBounds_toArray, List.set_cons_zero, List.set_cons_succ]
          have hM2 := mk_grewR hM1 hgr2 (fun g e => (hA.lt g e).1)
          simp only [Nat.zero_add, List.nil_append] at hown2
          obtain ⟨A, C, rfl, hca, hcb⟩ := ownsRow_sliceR2 hown2
          clear hA hgr2 hat2 hca hcb
          refine wpAny_ready (rs := [1]) (by kernel_rfl) (by simp) ?_
          refine (AllReady.cons rfl (fun K hK => ?_) AllReady.nil)
          have d0 := HX0.out _ hM2
          go_simp
          refine hK _ _ ?_
          clear hK K
          try simp only [Act.put, List.getElem_toArray, List.getElem_cons_succ, List.getElem_cons_zero, List.setIfInBounds_toArray, List.set_cons_zero, List.set_cons_succ]
          clear d0
          refine wpAny_take (i := 8) (v := _) rfl (by kernel_rfl) (by kernel_rfl) (by kernel_rfl) (fun _ _ _ h => h) (Or.inl ⟨by rfl, fun w => by go_simp; try with_reducible rfl⟩) ?_
          try simp only [Act.put, List.getElem_toArray, List.getElem_cons_succ, List.getElem_cons_zero, List.setIfInBounds_toArray, List.set_cons_zero, List.set_cons_succ]
          refine wpAny_ready (rs := [9]) (by kernel_rfl) (by simp) ?_
          refine (AllReady.cons rfl (fun K hK => ?_) AllReady.nil)
          have q0 := HR0.out _ hM2
          have q1 := HR1.out _ hM2
          have q2 := HR2.out _ hM2
          have fq := HFR.out _ hM2
          go_simp
          refine hK _ _ ?_
          clear hK K
          try simp only [Act.put, List.getElem_toArray, List.getElem_cons_succ, List.getElem_cons_zero, List.setIfInBounds_toArray, List.set_cons_zero, List.set_cons_succ]
          refine wpAny_done (by kernel_rfl) ?_ _
          refine ‹∀ (a : Act) (w : World), _ → _› _ _ ?_
          have zz2 := hM2.size
          have M2 := M0.trans hM2
          have r0 := HR0.out _ hM2
          have r1 := HR1.out _ hM2
          have r2 := HR2.out _ hM2
          clear HX0 HX1 HX2 HR0 HR1 HR2 HFR HH
          go_wp2_with fail
          replace r0 := World.cell?_setCell_same _ _ (.int .i64 x0) r0
          replace r1 := cell_set r1 ⟨w.heap.size + 1, 0, none⟩ (.int .i64 x0) (.inr (by simp))
          replace r2 := cell_set r2 ⟨w.heap.size + 1, 0, none⟩ (.int .i64 x0) (.inr (by simp))
          replace hown2 := own_put hown2 ⟨w.heap.size + 1, 0, none⟩ (.int .i64 x0) (show w.heap.size + 1 < _ from by omega)
          replace M2 := M2.put ⟨w.heap.size + 1, 0, none⟩ (.int .i64 x0) (show w.heap.size ≤ w.heap.size + 1 from by omega)
          replace r0 := cell_set r0 ⟨w.heap.size + 1, 1, none⟩ (.int .i64 x1) (.inr (by simp))
          replace r1 := World.cell?_setCell_same _ _ (.int .i64 x1) r1
          replace r2 := cell_set r2 ⟨w.heap.size + 1, 1, none⟩ (.int .i64 x1) (.inr (by simp))
          replace hown2 := own_put hown2 ⟨w.heap.size + 1, 1, none⟩ (.int .i64 x1) (show w.heap.size + 1 < _ from by omega)
          replace M2 := M2.put ⟨w.heap.size + 1, 1, none⟩ (.int .i64 x1) (show w.heap.size ≤ w.heap.size + 1 from by omega)
          replace r0 := cell_set r0 ⟨w.heap.size + 1, 2, none⟩ (.slice A n C) (.inr (by simp))
          replace r1 := cell_set r1 ⟨w.heap.size + 1, 2, none⟩ (.slice A n C) (.inr (by simp))
          replace r2 := World.cell?_setCell_same _ _ (.slice A n C) r2
          replace hown2 := own_put hown2 ⟨w.heap.size + 1, 2, none⟩ (.slice A n C) (show w.heap.size + 1 < _ from by omega)
          replace M2 := M2.put ⟨w.heap.size + 1, 2, none⟩ (.slice A n C) (show w.heap.size ≤ w.heap.size + 1 from by omega)
          generalize (((u2.setCell ⟨w.heap.size + 1, 0, none⟩ (.int .i64 x0)).setCell ⟨w.heap.size + 1, 1, none⟩ (.int .i64 x1)).setCell ⟨w.heap.size + 1, 2, none⟩ (.slice A n C)) = WF at *
          exact bodyPost_ret (v := .agg #[.int .i64 x0, .int .i64 x1, .slice A n C]) (by simp [results, Try.results38, go_sem, r0, r1, r2]) rfl ⟨_, _, _, rfl, own_lowR hown2 (by omega), M2⟩
    · have d0 := HX2.out _ hM0
      go_simp
      refine hK _ _ ?_
      clear hK K
      try simp only [Act.put, List.getElem_toArray, List.getElem_cons_succ, List.getElem_cons_zero, List.setIfInBounds_toArray, List.set_cons_zero, List.set_cons_succ]
      clear d0
      refine wpAny_ready (rs := [1, 4]) (by kernel_rfl) (by simp) ?_
      refine (AllReady.cons rfl (fun K hK => ?_) (AllReady.cons rfl (fun K hK => ?_) AllReady.nil))
      · have d0 := HX0.out _ hM0
        go_simp
        refine hK _ _ ?_
        clear hK K
        try simp only [Act.put, List.getElem_toArray, List.getElem_cons_succ, List.getElem_cons_zero, List.setIfInBounds_toArray, List.set_cons_zero, List.set_cons_succ]
        clear d0
        refine wpAny_ready (rs := [4]) (by kernel_rfl) (by simp) ?_
        refine (AllReady.cons rfl (fun K hK => ?_) AllReady.nil)
        go_simp
        refine hK _ _ ?_
        clear hK K
        try simp only [Act.put, List.getElem_toArray, List.getElem_cons_succ, List.getElem_cons_zero, List.setIfInBounds_toArray, List.set_cons_zero, List.set_cons_succ]
        have hA := own_emptyR u0 115 5
        have hM1 : Mk0 WW (u0.alloc (.cells #[] 115)) := hM0.new _
        replace hA := own_lowR hA hM0.size
        generalize u0.alloc (.cells #[] 115) = u1 at *
        refine wpAny_ready (rs := [7]) (by kernel_rfl) (by simp) ?_
        refine (AllReady.cons rfl (fun K hK => ?_) AllReady.nil)
        refine step_appR (nc := 5) (cell := THop.cell) (by decide) oneHopC (by rfl) (.tmp 7) (.tmp 9) 80 (by rfl) WW.heap.size 115 i0 _ Try.underlying80 hi0 hz0 rfl hz1 (by rw [hz2]; decide) _ [] 0 (by rfl) hA a n c zs (by rfl) HC.out ((HH.out _ hM1).mono (Nat.le_trans hB (M0.trans hM1).size)) (by omega) hM1.size ?_
        intro v2 u2 hown2 hgr2 hat2
        refine hK _ _ ?_
        clear hK K
        try simp only [Act.put, List.getElem_toArray, List.getElem_cons_succ, List.getElem_cons_zero, List.setIfInBounds_toArray, List.set_cons_zero, List.set_cons_succ]
        have hM2 := mk_grewR hM1 hgr2 (fun g e => (hA.lt g e).1)
        simp only [Nat.zero_add, List.nil_append] at hown2
        obtain ⟨A, C, rfl, hca, hcb⟩ := ownsRow_sliceR2 hown2
        clear hA hgr2 hat2 hca hcb
        refine wpAny_take (i := 8) (v := _) rfl (by kernel_rfl) (by kernel_rfl) (by kernel_rfl) (fun _ _ _ h => h) (Or.inl ⟨by rfl, fun w => by go_simp; try with_reducible rfl⟩) ?_
        try simp only [Act.put, List.getElem_toArray, List.getElem_cons_succ, List.getElem_cons_zero, List.setIfInBounds_toArray, List.set_cons_zero, List.set_cons_succ]
        refine wpAny_ready (rs := [9]) (by kernel_rfl) (by simp) ?_
        refine (AllReady.cons rfl (fun K hK => ?_) AllReady.nil)
        have q0 := HR0.out _ hM2
        have q1 := HR1.out _ hM2
        have q2 := HR2.out _ hM2
        have fq := HFR.out _ hM2
        go_simp
        refine hK _ _ ?_
        clear hK K
        try simp only [Act.put, List.getElem_toArray, List.getElem_cons_succ, List.getElem_cons_zero, List.setIfInBounds_toArray, List.set_cons_zero, List.set_cons_succ]
        refine wpAny_done (by kernel_rfl) ?_ _
        refine ‹∀ (a : Act) (w : World), _ → _› _ _ ?_
        have zz2 := hM2.size
        have M2 := M0.trans hM2
        have r0 := HR0.out _ hM2
        have r1 := HR1.out _ hM2
        have r2 := HR2.out _ hM2
        clear HX0 HX1 HX2 HR0 HR1 HR2 HFR HH
        go_wp2_with fail
        replace r0 := World.cell?_setCell_same _ _ (.int .i64 x0) r0
        replace r1 := cell_set r1 ⟨w.heap.size + 1, 0, none⟩ (.int .i64 x0) (.inr (by simp))
        replace r2 := cell_set r2 ⟨w.heap.size + 1, 0, none⟩ (.int .i64 x0) (.inr (by simp))
        replace hown2 := own_put hown2 ⟨w.heap.size + 1, 0, none⟩ (.int .i64 x0) (show w.heap.size + 1 < _ from by omega)
        replace M2 := M2.put ⟨w.heap.size + 1, 0, none⟩ (.int .i64 x0) (show w.heap.size ≤ w.heap.size + 1 from by omega)
        replace r0 := cell_set r0 ⟨w.heap.size + 1, 1, none⟩ (.int .i64 x1) (.inr (by simp))
        replace r1 := World.cell?_setCell_same _ _ (.int .i64 x1) r1
        replace r2 := cell_set r2 ⟨w.heap.size + 1, 1, none⟩ (.int .i64 x1) (.inr (by simp))
        replace hown2 := own_put hown2 ⟨w.heap.size + 1, 1, none⟩ (.int .i64 x1) (show w.heap.size + 1 < _ from by omega)
        replace M2 := M2.put ⟨w.heap.size + 1, 1, none⟩ (.int .i64 x1) (show w.heap.size ≤ w.heap.size + 1 from by omega)
        replace r0 := cell_set r0 ⟨w.heap.size + 1, 2, none⟩ (.slice A n C) (.inr (by simp))
        replace r1 := cell_set r1 ⟨w.heap.size + 1, 2, none⟩ (.slice A n C) (.inr (by simp))
        replace r2 := World.cell?_setCell_same _ _ (.slice A n C) r2
        replace hown2 := own_put hown2 ⟨w.heap.size + 1, 2, none⟩ (.slice A n C) (show w.heap.size + 1 < _ from by omega)
        replace M2 := M2.put ⟨w.heap.size + 1, 2, none⟩ (.slice A n C) (show w.heap.size ≤ w.heap.size + 1 from by omega)
        generalize (((u2.setCell ⟨w.heap.size + 1, 0, none⟩ (.int .i64 x0)).setCell ⟨w.heap.size + 1, 1, none⟩ (.int .i64 x1)).setCell ⟨w.heap.size + 1, 2, none⟩ (.slice A n C)) = WF at *
        exact bodyPost_ret (v := .agg #[.int .i64 x0, .int .i64 x1, .slice A n C]) (by simp [results, Try.results38, go_sem, r0, r1, r2]) rfl ⟨_, _, _, rfl, own_lowR hown2 (by omega), M2⟩
      · go_simp
        refine hK _ _ ?_
        clear hK K
        try simp only [Act.put, List.getElem_toArray, List.getElem_cons_succ, List.getElem_cons_zero, List.setIfInBounds_toArray, List.set_cons_zero, List.set_cons_succ]
        have hA := own_emptyR u0 115 5
        have hM1 : Mk0 WW (u0.alloc (.cells #[] 115)) := hM0.new _
        replace hA := own_lowR hA hM0.size
        generalize u0.alloc (.cells #[] 115) = u1 at *
        refine wpAny_ready (rs := [1, 7]) (by kernel_rfl) (by simp) ?_
        refine (AllReady.cons rfl (fun K hK => ?_) (AllReady.cons rfl (fun K hK => ?_) AllReady.nil))
        · have d0 := HX0.out _ hM1
          go_simp
          refine hK _ _ ?_
          clear hK K
          try simp only [Act.put, List.getElem_toArray, List.getElem_cons_succ, List.getElem_cons_zero, List.setIfInBounds_toArray, List.set_cons_zero, List.set_cons_succ]
          clear d0
          refine wpAny_ready (rs := [7]) (by kernel_rfl) (by simp) ?_
          refine (AllReady.cons rfl (fun K hK => ?_) AllReady.nil)
          refine step_appR (nc := 5) (cell := THop.cell) (by decide) oneHopC (by rfl) (.tmp 7) (.tmp 9) 80 (by rfl) WW.heap.size 115 i0 _ Try.underlying80 hi0 hz0 rfl hz1 (by rw [hz2]; decide) _ [] 0 (by rfl) hA a n c zs (by rfl) HC.out ((HH.out _ hM1).mono (Nat.le_trans hB (M0.trans hM1).size)) (by omega) hM1.size ?_
          intro v2 u2 hown2 hgr2 hat2
          refine hK _ _ ?_
          clear hK K
          try simp only [Act.put, List.getElem_toArray, List.getElem_cons_succ, List.getElem_cons_zero, List.setIfInBounds_toArray, List.set_cons_zero, List.set_cons_succ]
          have hM2 := mk_grewR hM1 hgr2 (fun g e => (hA.lt g e).1)
          simp only [Nat.zero_add, List.nil_append] at hown2
          obtain ⟨A, C, rfl, hca, hcb⟩ := ownsRow_sliceR2 hown2
          clear hA hgr2 hat2 hca hcb
          refine wpAny_take (i := 8) (v := _) rfl (by kernel_rfl) (by kernel_rfl) (by kernel_rfl) (fun _ _ _ h => h) (Or.inl ⟨by rfl, fun w => by go_simp; try with_reducible rfl⟩) ?_
          try simp only [Act.put, List.getElem_toArray, List.getElem_cons_succ, List.getElem_cons_zero, List.setIfInBounds_toArray, List.set_cons_zero, List.set_cons_succ]
          refine wpAny_ready (rs := [9]) (by kernel_rfl) (by simp) ?_
          refine (AllReady.cons rfl (fun K hK => ?_) AllReady.nil)
          have q0 := HR0.out _ hM2
          have q1 := HR1.out _ hM2
          have q2 := HR2.out _ hM2
          have fq := HFR.out _ hM2
          go_simp
          refine hK _ _ ?_
          clear hK K
          try simp only [Act.put, List.getElem_toArray, List.getElem_cons_succ, List.getElem_cons_zero, List.setIfInBounds_toArray, List.set_cons_zero, List.set_cons_succ]
          refine wpAny_done (by kernel_rfl) ?_ _
          refine ‹∀ (a : Act) (w : World), _ → _› _ _ ?_
          have zz2 := hM2.size
          have M2 := M0.trans hM2
          have r0 := HR0.out _ hM2
          have r1 := HR1.out _ hM2
          have r2 := HR2.out _ hM2
          clear HX0 HX1 HX2 HR0 HR1 HR2 HFR HH
          go_wp2_with fail
          replace r0 := World.cell?_setCell_same _ _ (.int .i64 x0) r0
          replace r1 := cell_set r1 ⟨w.heap.size + 1, 0, none⟩ (.int .i64 x0) (.inr (by simp))
          replace r2 := cell_set r2 ⟨w.heap.size + 1, 0, none⟩ (.int .i64 x0) (.inr (by simp))
          replace hown2 := own_put hown2 ⟨w.heap.size + 1, 0, none⟩ (.int .i64 x0) (show w.heap.size + 1 < _ from by omega)
          replace M2 := M2.put ⟨w.heap.size + 1, 0, none⟩ (.int .i64 x0) (show w.heap.size ≤ w.heap.size + 1 from by omega)
          replace r0 := cell_set r0 ⟨w.heap.size + 1, 1, none⟩ (.int .i64 x1) (.inr (by simp))
          replace r1 := World.cell?_setCell_same _ _ (.int .i64 x1) r1
          replace r2 := cell_set r2 ⟨w.heap.size + 1, 1, none⟩ (.int .i64 x1) (.inr (by simp))
          replace hown2 := own_put hown2 ⟨w.heap.size + 1, 1, none⟩ (.int .i64 x1) (show w.heap.size + 1 < _ from by omega)
          replace M2 := M2.put ⟨w.heap.size + 1, 1, none⟩ (.int .i64 x1) (show w.heap.size ≤ w.heap.size + 1 from by omega)
          replace r0 := cell_set r0 ⟨w.heap.size + 1, 2, none⟩ (.slice A n C) (.inr (by simp))
          replace r1 := cell_set r1 ⟨w.heap.size + 1, 2, none⟩ (.slice A n C) (.inr (by simp))
          replace r2 := World.cell?_setCell_same _ _ (.slice A n C) r2
          replace hown2 := own_put hown2 ⟨w.heap.size + 1, 2, none⟩ (.slice A n C) (show w.heap.size + 1 < _ from by omega)
          replace M2 := M2.put ⟨w.heap.size + 1, 2, none⟩ (.slice A n C) (show w.heap.size ≤ w.heap.size + 1 from by omega)
          generalize (((u2.setCell ⟨w.heap.size + 1, 0, none⟩ (.int .i64 x0)).setCell ⟨w.heap.size + 1, 1, none⟩ (.int .i64 x1)).setCell ⟨w.heap.size + 1, 2, none⟩ (.slice A n C)) = WF at *
          exact bodyPost_ret (v := .agg #[.int .i64 x0, .int .i64 x1, .slice A n C]) (by simp [results, Try.results38, go_sem, r0, r1, r2]) rfl ⟨_, _, _, rfl, own_lowR hown2 (by omega), M2⟩
        · refine step_appR (nc := 5) (cell := THop.cell) (by decide) oneHopC (by rfl) (.tmp 7) (.tmp 9) 80 (by rfl) WW.heap.size 115 i0 _ Try.underlying80 hi0 hz0 rfl hz1 (by rw [hz2]; decide) _ [] 0 (by rfl) hA a n c zs (by rfl) HC.out ((HH.out _ hM1).mono (Nat.le_trans hB (M0.trans hM1).size)) (by omega) hM1.size ?_
          intro v2 u2 hown2 hgr2 hat2
          refine hK _ _ ?_
          clear hK K
          try simp only [Act.put, List.getElem_toArray, List.getElem_cons_succ, List.getElem_cons_zero, List.setIfInBounds_toArray, List.set_cons_zero, List.set_cons_succ]
          have hM2 := mk_grewR hM1 hgr2 (fun g e => (hA.lt g e).1)
          simp only [Nat.zero_add, List.nil_append] at hown2
          obtain ⟨A, C, rfl, hca, hcb⟩ := ownsRow_sliceR2 hown2
          clear hA hgr2 hat2 hca hcb
          refine wpAny_ready (rs := [1]) (by kernel_rfl) (by simp) ?_
          refine (AllReady.cons rfl (fun K hK => ?_) AllReady.nil)
          have d0 := HX0.out _ hM2
          go_simp
          refine hK _ _ ?_
          clear hK K
          try simp only [Act.put, List.getElem_toArray, List.getElem_cons_succ, List.getElem_cons_zero, List.setIfInBounds_toArray, List.set_cons_zero, List.set_cons_succ]
          clear d0
          refine wpAny_take (i := 8) (v := _) rfl (by kernel_rfl) (by kernel_rfl) (by kernel_rfl) (fun _ _ _ h => h) (Or.inl ⟨by rfl, fun w => by go_simp; try with_reducible rfl⟩) ?_
          try simp only [Act.put, List.getElem_toArray, List.getElem_cons_succ, List.getElem_cons_zero, List.setIfInBounds_toArray, List.set_cons_zero, List.set_cons_succ]
          refine wpAny_ready (rs := [9]) (by kernel_rfl) (by simp) ?_
          refine (AllReady.cons rfl (fun K hK => ?_) AllReady.nil)
          have q0 := HR0.out _ hM2
          have q1 := HR1.out _ hM2
          have q2 := HR2.out _ hM2
          have fq := HFR.out _ hM2
          go_simp
          refine hK _ _ ?_
          clear hK K
          try simp only [Act.put, List.getElem_toArray, List.getElem_cons_succ, List.getElem_cons_zero, List.setIfInBounds_toArray, List.set_cons_zero, List.set_cons_succ]
          refine wpAny_done (by kernel_rfl) ?_ _
          refine ‹∀ (a : Act) (w : World), _ → _› _ _ ?_
          have zz2 := hM2.size
          have M2 := M0.trans hM2
          have r0 := HR0.out _ hM2
          have r1 := HR1.out _ hM2
          have r2 := HR2.out _ hM2
          clear HX0 HX1 HX2 HR0 HR1 HR2 HFR HH
          go_wp2_with fail
          replace r0 := World.cell?_setCell_same _ _ (.int .i64 x0) r0
          replace r1 := cell_set r1 ⟨w.heap.size + 1, 0, none⟩ (.int .i64 x0) (.inr (by simp))
          replace r2 := cell_set r2 ⟨w.heap.size + 1, 0, none⟩ (.int .i64 x0) (.inr (by simp))
          replace hown2 := own_put hown2 ⟨w.heap.size + 1, 0, none⟩ (.int .i64 x0) (show w.heap.size + 1 < _ from by omega)
          replace M2 := M2.put ⟨w.heap.size + 1, 0, none⟩ (.int .i64 x0) (show w.heap.size ≤ w.heap.size + 1 from by omega)
          replace r0 := cell_set r0 ⟨w.heap.size + 1, 1, none⟩ (.int .i64 x1) (.inr (by simp))
          replace r1 := World.cell?_setCell_same _ _ (.int .i64 x1) r1
          replace r2 := cell_set r2 ⟨w.heap.size + 1, 1, none⟩ (.int .i64 x1) (.inr (by simp))
          replace hown2 := own_put hown2 ⟨w.heap.size + 1, 1, none⟩ (.int .i64 x1) (show w.heap.size + 1 < _ from by omega)
          replace M2 := M2.put ⟨w.heap.size + 1, 1, none⟩ (.int .i64 x1) (show w.heap.size ≤ w.heap.size + 1 from by omega)
          replace r0 := cell_set r0 ⟨w.heap.size + 1, 2, none⟩ (.slice A n C) (.inr (by simp))
          replace r1 := cell_set r1 ⟨w.heap.size + 1, 2, none⟩ (.slice A n C) (.inr (by simp))
          replace r2 := World.cell?_setCell_same _ _ (.slice A n C) r2
          replace hown2 := own_put hown2 ⟨w.heap.size + 1, 2, none⟩ (.slice A n C) (show w.heap.size + 1 < _ from by omega)
          replace M2 := M2.put ⟨w.heap.size + 1, 2, none⟩ (.slice A n C) (show w.heap.size ≤ w.heap.size + 1 from by omega)
          generalize (((u2.setCell ⟨w.heap.size + 1, 0, none⟩ (.int .i64 x0)).setCell ⟨w.heap.size + 1, 1, none⟩ (.int .i64 x1)).setCell ⟨w.heap.size + 1, 2, none⟩ (.slice A n C)) = WF at *
          exact bodyPost_ret (v := .agg #[.int .i64 x0, .int .i64 x1, .slice A n C]) (by simp [results, Try.results38, go_sem, r0, r1, r2]) rfl ⟨_, _, _, rfl, own_lowR hown2 (by omega), M2⟩
  · go_simp
    refine hK _ _ ?_
    clear hK K
    try simp only [Act.put, List.getElem_toArray, List.getElem_cons_succ, List.getElem_cons_zero, List.setIfInBounds_toArray, List.set_cons_zero, List.set_cons_succ]
    have hA := own_emptyR u0 115 5
    have hM1 : Mk0 WW (u0.alloc (.cells #[] 115)) := hM0.new _
    replace hA := own_lowR hA hM0.size
    generalize u0.alloc (.cells #[] 115) = u1 at *
    refine wpAny_ready (rs := [1, 3, 6]) (by kernel_rfl) (by simp) ?_
    refine (AllReady.cons rfl (fun K hK => ?_) (AllReady.cons rfl (fun K hK => ?_) (AllReady.cons rfl (fun K hK => ?_) AllReady.nil)))
    · have d0 := HX0.out _ hM1
      go_simp
      refine hK _ _ ?_
      clear hK K
      try simp only [Act.put, List.getElem_toArray, List.getElem_cons_succ, List.getElem_cons_zero, List.setIfInBounds_toArray, List.set_cons_zero, List.set_cons_succ]
      clear d0
      refine wpAny_ready (rs := [3, 6]) (by kernel_rfl) (by simp) ?_
      refine (AllReady.cons rfl (fun K hK => ?_) (AllReady.cons rfl (fun K hK => ?_) AllReady.nil))
      · have d0 := HX1.out _ hM1
        go_simp
        refine hK _ _ ?_
        clear hK K
        try simp only [Act.put, List.getElem_toArray, List.getElem_cons_succ, List.getElem_cons_zero, List.setIfInBounds_toArray, List.set_cons_zero, List.set_cons_succ]
        clear d0
        refine wpAny_ready (rs := [6]) (by kernel_rfl) (by simp) ?_
        refine (AllReady.cons rfl (fun K hK => ?_) AllReady.nil)
        have d0 := HX2.out _ hM1
        go_simp
        refine hK _ _ ?_
        clear hK K
        try simp only [Act.put, List.getElem_toArray, List.getElem_cons_succ, List.getElem_cons_zero, List.setIfInBounds_toArray, List.set_cons_zero, List.set_cons_succ]
        clear d0
        refine wpAny_ready (rs := [7]) (by kernel_rfl) (by simp) ?_
        refine (AllReady.cons rfl (fun K hK => ?_) AllReady.nil)
        refine step_appR (nc := 5) (cell := THop.cell) (by decide) oneHopC (by rfl) (.tmp 7) (.tmp 9) 80 (by rfl) WW.heap.size 115 i0 _ Try.underlying80 hi0 hz0 rfl hz1 (by rw [hz2]; decide) _ [] 0 (by rfl) hA a n c zs (by rfl) HC.out ((HH.out _ hM1).mono (Nat.le_trans hB (M0.trans hM1).size)) (by omega) hM1.size ?_
        intro v2 u2 hown2 hgr2 hat2
        refine hK _ _ ?_
        clear hK K
        try simp only [Act.put, List.getElem_toArray, List.getElem_cons_succ, List.getElem_cons_zero, List.setIfInBounds_toArray, List.set_cons_zero, List.set_cons_succ]
        have hM2 := mk_grewR hM1 hgr2 (fun g e => (hA.lt g e).1)
        simp only [Nat.zero_add, List.nil_append] at hown2
        obtain ⟨A, C, rfl, hca, hcb⟩ := ownsRow_sliceR2 hown2
        clear hA hgr2 hat2 hca hcb
        refine wpAny_take (i := 8) (v := _) rfl (by kernel_rfl) (by kernel_rfl) (by kernel_rfl) (fun _ _ _ h => h) (Or.inl ⟨by rfl, fun w => by go_simp; try with_reducible rfl⟩) ?_
        try simp only [Act.put, List.getElem_toArray, List.getElem_cons_succ, List.getElem_cons_zero, List.setIfInBounds_toArray, List.set_cons_zero, List.set_cons_succ]
        refine wpAny_ready (rs := [9]) (by kernel_rfl) (by simp) ?_
        refine (AllReady.cons rfl (fun K hK => ?_) AllReady.nil)
        have q0 := HR0.out _ hM2
        have q1 := HR1.out _ hM2
        have q2 := HR2.out _ hM2
        have fq := HFR.out _ hM2
        go_simp
        refine hK _ _ ?_
        clear hK K
        try simp only [Act.put, List.getElem_toArray, List.getElem_cons_succ, List.getElem_cons_zero, List.setIfInBounds_toArray, List.set_cons_zero, List.set_cons_succ]
        refine wpAny_done (by kernel_rfl) ?_ _
        refine ‹∀ (a : Act) (w : World), _ → _› _ _ ?_
        have zz2 := hM2.size
        have M2 := M0.trans hM2
        have r0 := HR0.out _ hM2
        have r1 := HR1.out _ hM2
        have r2 := HR2.out _ hM2
        clear HX0 HX1 HX2 HR0 HR1 HR2 HFR HH
        go_wp2_with fail
        replace r0 := World.cell?_setCell_same _ _ (.int .i64 x0) r0
        replace r1 := cell_set r1 ⟨w.heap.size + 1, 0, none⟩ (.int .i64 x0) (.inr (by simp))
        replace r2 := cell_set r2 ⟨w.heap.size + 1, 0, none⟩ (.int .i64 x0) (.inr (by simp))
        replace hown2 := own_put hown2 ⟨w.heap.size + 1, 0, none⟩ (.int .i64 x0) (show w.heap.size + 1 < _ from by omega)
        replace M2 := M2.put ⟨w.heap.size + 1, 0, none⟩ (.int .i64 x0) (show w.heap.size ≤ w.heap.size + 1 from by omega)
        replace r0 := cell_set r0 ⟨w.heap.size + 1, 1, none⟩ (.int .i64 x1) (.inr (by simp))
        replace r1 := World.cell?_setCell_same _ _ (.int .i64 x1) r1
        replace r2 := cell_set r2 ⟨w.heap.size + 1, 1, none⟩ (.int .i64 x1) (.inr (by simp))
        replace hown2 := own_put hown2 ⟨w.heap.size + 1, 1, none⟩ (.int .i64 x1) (show w.heap.size + 1 < _ from by omega)
        replace M2 := M2.put ⟨w.heap.size + 1, 1, none⟩ (.int .i64 x1) (show w.heap.size ≤ w.heap.size + 1 from by omega)
        replace r0 := cell_set r0 ⟨w.heap.size + 1, 2, none⟩ (.slice A n C) (.inr (by simp))
        replace r1 := cell_set r1 ⟨w.heap.size + 1, 2, none⟩ (.slice A n C) (.inr (by simp))
        replace r2 := World.cell?_setCell_same _ _ (.slice A n C) r2
        replace hown2 := own_put hown2 ⟨w.heap.size + 1, 2, none⟩ (.slice A n C) (show w.heap.size + 1 < _ from by omega)
        replace M2 := M2.put ⟨w.heap.size + 1, 2, none⟩ (.slice A n C) (show w.heap.size ≤ w.heap.size + 1 from by omega)
        generalize (((u2.setCell ⟨w.heap.size + 1, 0, none⟩ (.int .i64 x0)).setCell ⟨w.heap.size + 1, 1, none⟩ (.int .i64 x1)).setCell ⟨w.heap.size + 1, 2, none⟩ (.slice A n C)) = WF at *
        exact bodyPost_ret (v := .agg #[.int .i64 x0, .int .i64 x1, .slice A n C]) (by simp [results, Try.results38, go_sem, r0, r1, r2]) rfl ⟨_, _, _, rfl, own_lowR hown2 (by omega), M2⟩
      · have d0 := HX2.out _ hM1
        go_simp
        refine hK _ _ ?_
        clear hK K
        try simp only [Act.put, List.getElem_toArray, List.getElem_cons_succ, List.getElem_cons_zero, List.setIfInBounds_toArray, List.set_cons_zero, List.set_cons_succ]
        clear d0
        refine wpAny_ready (rs := [3, 7]) (by kernel_rfl) (by simp) ?_
        refine (AllReady.cons rfl (fun K hK => ?_) (AllReady.cons rfl (fun K hK => ?_) AllReady.nil))
        · have d0 := HX1.out _ hM1
          go_simp
          refine hK _ _ ?_
          clear hK K
          try simp only [Act.put, List.getElem_toArray, List.getElem_cons_succ, List.getElem_cons_zero, List.setIfInBounds_toArray, List.set_cons_zero, List.set_cons_succ]
          clear d0
          refine wpAny_ready (rs := [7]) (by kernel_rfl) (by simp) ?_
          refine (AllReady.cons rfl (fun K hK => ?_) AllReady.nil)
          refine step_appR (nc := 5) (cell := THop.cell) (by decide) oneHopC (by rfl) (.tmp 7) (.tmp 9) 80 (by rfl) WW.heap.size 115 i0 _ Try.underlying80 hi0 hz0 rfl hz1 (by rw [hz2]; decide) _ [] 0 (by rfl) hA a n c zs (by rfl) HC.out ((HH.out _ hM1).mono (Nat.le_trans hB (M0.trans hM1).size)) (by omega) hM1.size ?_
          intro v2 u2 hown2 hgr2 hat2
          refine hK _ _ ?_
          clear hK K
          try simp only [Act.put, List.getElem_toArray, List.getElem_cons_succ, List.getElem_cons_zero, List.setIfInBounds_toArray, List.set_cons_zero, List.set_cons_succ]
          have hM2 := mk_grewR hM1 hgr2 (fun g e => (hA.lt g e).1)
          simp only [Nat.zero_add, List.nil_append] at hown2
          obtain ⟨A, C, rfl, hca, hcb⟩ := ownsRow_sliceR2 hown2
          clear hA hgr2 hat2 hca hcb
          refine wpAny_take (i := 8) (v := _) rfl (by kernel_rfl) (by kernel_rfl) (by kernel_rfl) (fun _ _ _ h => h) (Or.inl ⟨by rfl, fun w => by go_simp; try with_reducible rfl⟩) ?_
          try simp only [Act.put, List.getElem_toArray, List.getElem_cons_succ, List.getElem_cons_zero, List.setIfInBounds_toArray, List.set_cons_zero, List.set_cons_succ]
          refine wpAny_ready (rs := [9]) (by kernel_rfl) (by simp) ?_
          refine (AllReady.cons rfl (fun K hK => ?_) AllReady.nil)
          have q0 := HR0.out _ hM2
          have q1 := HR1.out _ hM2
          have q2 := HR2.out _ hM2
          have fq := HFR.out _ hM2
          go_simp
          refine hK _ _ ?_
          clear hK K
          try simp only [Act.put, List.getElem_toArray, List.getElem_cons_succ, List.getElem_cons_zero, List.setIfInBounds_toArray, List.set_cons_zero, List.set_cons_succ]
          refine wpAny_done (by kernel_rfl) ?_ _
          refine ‹∀ (a : Act) (w : World), _ → _› _ _ ?_
          have zz2 := hM2.size
          have M2 := M0.trans hM2
          have r0 := HR0.out _ hM2
          have r1 := HR1.out _ hM2
          have r2 := HR2.out _ hM2
          clear HX0 HX1 HX2 HR0 HR1 HR2 HFR HH
          go_wp2_with fail
          replace r0 := World.cell?_setCell_same _ _ (.int .i64 x0) r0
          replace r1 := cell_set r1 ⟨w.heap.size + 1, 0, none⟩ (.int .i64 x0) (.inr (by simp))
          replace r2 := cell_set r2 ⟨w.heap.size + 1, 0, none⟩ (.int .i64 x0) (.inr (by simp))
          replace hown2 := own_put hown2 ⟨w.heap.size + 1, 0, none⟩ (.int .i64 x0) (show w.heap.size + 1 < _ from by omega)
          replace M2 := M2.put ⟨w.heap.size + 1, 0, none⟩ (.int .i64 x0) (show w.heap.size ≤ w.heap.size + 1 from by omega)
          replace r0 := cell_set r0 ⟨w.heap.size + 1, 1, none⟩ (.int .i64 x1) (.inr (by simp))
          replace r1 := World.cell?_setCell_same _ _ (.int .i64 x1) r1
          replace r2 := cell_set r2 ⟨w.heap.size + 1, 1, none⟩ (.int .i64 x1) (.inr (by simp))
          replace hown2 := own_put hown2 ⟨w.heap.size + 1, 1, none⟩ (.int .i64 x1) (show w.heap.size + 1 < _ from by omega)
          replace M2 := M2.put ⟨w.heap.size + 1, 1, none⟩ (.int .i64 x1) (show w.heap.size ≤ w.heap.size + 1 from by omega)
          replace r0 := cell_set r0 ⟨w.heap.size + 1, 2, none⟩ (.slice A n C) (.inr (by simp))
          replace r1 := cell_set r1 ⟨w.heap.size + 1, 2, none⟩ (.slice A n C) (.inr (by simp))
          replace r2 := World.cell?_setCell_same _ _ (.slice A n C) r2
          replace hown2 := own_put hown2 ⟨w.heap.size + 1, 2, none⟩ (.slice A n C) (show w.heap.size + 1 < _ from by omega)
          replace M2 := M2.put ⟨w.heap.size + 1, 2, none⟩ (.slice A n C) (show w.heap.size ≤ w.heap.size + 1 from by omega)
          generalize (((u2.setCell ⟨w.heap.size + 1, 0, none⟩ (.int .i64 x0)).setCell ⟨w.heap.size + 1, 1, none⟩ (.int .i64 x1)).setCell ⟨w.heap.size + 1, 2, none⟩ (.slice A n C)) = WF at *
          exact bodyPost_ret (v := .agg #[.int .i64 x0, .int .i64 x1, .slice A n C]) (by simp [results, Try.results38, go_sem, r0, r1, r2]) rfl ⟨_, _, _, rfl, own_lowR hown2 (by omega), M2⟩
        · refine step_appR (nc := 5) (cell := THop.cell) (by decide) oneHopC (by rfl) (.tmp 7) (.tmp 9) 80 (by rfl) WW.heap.size 115 i0 _ Try.underlying80 hi0 hz0 rfl hz1 (by rw [hz2]; decide) _ [] 0 (by rfl) hA a n c zs (by rfl) HC.out ((HH.out _ hM1).mono (Nat.le_trans hB (M0.trans hM1).size)) (by omega) hM1.size ?_
          intro v2 u2 hown2 hgr2 hat2
          refine hK _ _ ?_
          clear hK K
          try simp only [Act.put, List.getElem_toArray, List.getElem_cons_succ, List.getElem_cons_zero, List.setIfInBounds_toArray, List.set_cons_zero, List.set_cons_succ]
          have hM2 := mk_grewR hM1 hgr2 (fun g e => (hA.lt g e).1)
          simp only [Nat.zero_add, List.nil_append] at hown2
          obtain ⟨A, C, rfl, hca, hcb⟩ := ownsRow_sliceR2 hown2
          clear hA hgr2 hat2 hca hcb
          refine wpAny_ready (rs := [3]) (by kernel_rfl) (by simp) ?_
          refine (AllReady.cons rfl (fun K hK => ?_) AllReady.nil)
          have d0 := HX1.out _ hM2
          go_simp
          refine hK _ _ ?_
          clear hK K
          try simp only [Act.put, List.getElem_toArray, List.getElem_cons_succ, List.getElem_cons_zero, List.setIfInBounds_toArray, List.set_cons_zero, List.set_cons_succ]
          clear d0
          refine wpAny_take (i := 8) (v := _) rfl (by kernel_rfl) (by kernel_rfl) (by kernel_rfl) (fun _ _ _ h => h) (Or.inl ⟨by rfl, fun w => by go_simp; try with_reducible rfl⟩) ?_
          try simp only [Act.put, List.getElem_toArray, List.getElem_cons_succ, List.getElem_cons_zero, List.setIfInBounds_toArray, List.set_cons_zero, List.set_cons_succ]
          refine wpAny_ready (rs := [9]) (by kernel_rfl) (by simp) ?_
          refine (AllReady.cons rfl (fun K hK => ?_) AllReady.nil)
          have q0 := HR0.out _ hM2
          have q1 := HR1.out _ hM2
          have q2 := HR2.out _ hM2
          have fq := HFR.out _ hM2
          go_simp
          refine hK _ _ ?_
          clear hK K
          try simp only [Act.put, List.getElem_toArray, List.getElem_cons_succ, List.getElem_cons_zero, List.setIfInBounds_toArray, List.set_cons_zero, List.set_cons_succ]
          refine wpAny_done (by kernel_rfl) ?_ _
          refine ‹∀ (a : Act) (w : World), _ → _› _ _ ?_
          have zz2 := hM2.size
          have M2 := M0.trans hM2
          have r0 := HR0.out _ hM2
          have r1 := HR1.out _ hM2
          have r2 := HR2.out _ hM2
          clear HX0 HX1 HX2 HR0 HR1 HR2 HFR HH
          go_wp2_with fail
          replace r0 := World.cell?_setCell_same _ _ (.int .i64 x0) r0
          replace r1 := cell_set r1 ⟨w.heap.size + 1, 0, none⟩ (.int .i64 x0) (.inr (by simp))
          replace r2 := cell_set r2 ⟨w.heap.size + 1, 0, none⟩ (.int .i64 x0) (.inr (by simp))
          replace hown2 := own_put hown2 ⟨w.heap.size + 1, 0, none⟩ (.int .i64 x0) (show w.heap.size + 1 < _ from by omega)
          replace M2 := M2.put ⟨w.heap.size + 1, 0, none⟩ (.int .i64 x0) (show w.heap.size ≤ w.heap.size + 1 from by omega)
          replace r0 := cell_set r0 ⟨w.heap.size + 1, 1, none⟩ (.int .i64 x1) (.inr (by simp))
          replace r1 := World.cell?_setCell_same _ _ (.int .i64 x1) r1
          replace r2 := cell_set r2 ⟨w.heap.size + 1, 1, none⟩ (.int .i64 x1) (.inr (by simp))
          replace hown2 := own_put hown2 ⟨w.heap.size + 1, 1, none⟩ (.int .i64 x1) (show w.heap.size + 1 < _ from by omega)
          replace M2 := M2.put ⟨w.heap.size + 1, 1, none⟩ (.int .i64 x1) (show w.heap.size ≤ w.heap.size + 1 from by omega)
          replace r0 := cell_set r0 ⟨w.heap.size + 1, 2, none⟩ (.slice A n C) (.inr (by simp))
          replace r1 := cell_set r1 ⟨w.heap.size + 1, 2, none⟩ (.slice A n C) (.inr (by simp))
          replace r2 := World.cell?_setCell_same _ _ (.slice A n C) r2
          replace hown2 := own_put hown2 ⟨w.heap.size + 1, 2, none⟩ (.slice A n C) (show w.heap.size + 1 < _ from by omega)
          replace M2 := M2.put ⟨w.heap.size + 1, 2, none⟩ (.slice A n C) (show w.heap.size ≤ w.heap.size + 1 from by omega)
          generalize (((u2.setCell ⟨w.heap.size + 1, 0, none⟩ (.int .i64 x0)).setCell ⟨w.heap.size + 1, 1, none⟩ (.int .i64 x1)).setCell ⟨w.heap.size + 1, 2, none⟩ (.slice A n C)) = WF at *
          exact bodyPost_ret (v := .agg #[.int .i64 x0, .int .i64 x1, .slice A n C]) (by simp [results, Try.results38, go_sem, r0, r1, r2]) rfl ⟨_, _, _, rfl, own_lowR hown2 (by omega), M2⟩
    · have d0 := HX1.out _ hM1
      go_simp
      refine hK _ _ ?_
      clear hK K
      try simp only [Act.put, List.getElem_toArray, List.getElem_cons_succ, List.getElem_cons_zero, List.setIfInBounds_toArray, List.set_cons_zero, List.set_cons_succ]
      clear d0
      refine wpAny_ready (rs := [1, 6]) (by kernel_rfl) (by simp) ?_
      refine (AllReady.cons rfl (fun K hK => ?_) (AllReady.cons rfl (fun K hK => ?_) AllReady.nil))
      · have d0 := HX0.out _ hM1
        go_simp
        refine hK _ _ ?_
        clear hK K
        try simp only [Act.put, List.getElem_toArray, List.getElem_cons_succ, List.getElem_cons_zero, List.setIfInBounds_toArray, List.set_cons_zero, List.set_cons_succ]
        clear d0
        refine wpAny_ready (rs := [6]) (by kernel_rfl) (by simp) ?_
        refine (AllReady.cons rfl (fun K hK => ?_) AllReady.nil)
        have d0 := HX2.out _ hM1
        go_simp
        refine hK _ _ ?_
        clear hK K
        try simp only [Act.put, List.getElem_toArray, List.getElem_cons_succ, List.getElem_cons_zero, List.setIfInBounds_toArray, List.set_cons_zero, List.set_cons_succ]
        clear d0
        refine wpAny_ready (rs := [7]) (by kernel_rfl) (by simp) ?_
        refine (AllReady.cons rfl (fun K hK => ?_) AllReady.nil)
        refine step_appR (nc := 5) (cell := THop.cell) (by decide) oneHopC (by rfl) (.tmp 7) (.tmp 9) 80 (by rfl) WW.heap.size 115 i0 _ Try.underlying80 hi0 hz0 rfl hz1 (by rw [hz2]; decide) _ [] 0 (by rfl) hA a n c zs (by rfl) HC.out ((HH.out _ hM1).mono (Nat.le_trans hB (M0.trans hM1).size)) (by omega) hM1.size ?_
        intro v2 u2 hown2 hgr2 hat2
        refine hK _ _ ?_
        clear hK K
        try simp only [Act.put, List.getElem_toArray, List.getElem_cons_succ, List.getElem_cons_zero, List.setIfInBounds_toArray, List.set_cons_zero, List.set_cons_succ]
        have hM2 := mk_grewR hM1 hgr2 (fun g e => (hA.lt g e).1)
        simp only [Nat.zero_add, List.nil_append] at hown2
        obtain ⟨A, C, rfl, hca, hcb⟩ := ownsRow_sliceR2 hown2
        clear hA hgr2 hat2 hca hcb
        refine wpAny_take (i := 8) (v := _) rfl (by kernel_rfl) (by kernel_rfl) (by kernel_rfl) (fun _ _ _ h => h) (Or.inl ⟨by rfl, fun w => by go_simp; try with_reducible rfl⟩) ?_
        try simp only [Act.put, List.getElem_toArray, List.getElem_cons_succ, List.getElem_cons_zero, List.setIfInBounds_toArray, List.set_cons_zero, List.set_cons_succ]
        refine wpAny_ready (rs := [9]) (by kernel_rfl) (by simp) ?_
        refine (AllReady.cons rfl (fun K hK => ?_) AllReady.nil)
        have q0 := HR0.out _ hM2
        have q1 := HR1.out _ hM2
        have q2 := HR2.out _ hM2
        have fq := HFR.out _ hM2
        go_simp
        refine hK _ _ ?_
        clear hK K
        try simp only [Act.put, List.getElem_toArray, List.getElem_cons_succ, List.getElem_cons_zero, List.setIfInBounds_toArray, List.set_cons_zero, List.set_cons_succ]
        refine wpAny_done (by kernel_rfl) ?_ _
        refine ‹∀ (a : Act) (w : World), _ → _› _ _ ?_
        have zz2 := hM2.size
        have M2 := M0.trans hM2
        have r0 := HR0.out _ hM2
        have r1 := HR1.out _ hM2
        have r2 := HR2.out _ hM2
        clear HX0 HX1 HX2 HR0 HR1 HR2 HFR HH
        go_wp2_with fail
        replace r0 := World.cell?_setCell_same _ _ (.int .i64 x0) r0
        replace r1 := cell_set r1 ⟨w.heap.size + 1, 0, none⟩ (.int .i64 x0) (.inr (by simp))
        replace r2 := cell_set r2 ⟨w.heap.size + 1, 0, none⟩ (.int .i64 x0) (.inr (by simp))
        replace hown2 := own_put hown2 ⟨w.heap.size + 1, 0, none⟩ (.int .i64 x0) (show w.heap.size + 1 < _ from by omega)
        replace M2 := M2.put ⟨w.heap.size + 1, 0, none⟩ (.int .i64 x0) (show w.heap.size ≤ w.heap.size + 1 from by omega)
        replace r0 := cell_set r0 ⟨w.heap.size + 1, 1, none⟩ (.int .i64 x1) (.inr (by simp))
        replace r1 := World.cell?_setCell_same _ _ (.int .i64 x1) r1
        replace r2 := cell_set r2 ⟨w.heap.size + 1, 1, none⟩ (.int .i64 x1) (.inr (by simp))
        replace hown2 := own_put hown2 ⟨w.heap.size + 1, 1, none⟩ (.int .i64 x1) (show w.heap.size + 1 < _ from by omega)
        replace M2 := M2.put ⟨w.heap.size + 1, 1, none⟩ (.int .i64 x1) (show w.heap.size ≤ w.heap.size + 1 from by omega)
        replace r0 := cell_set r0 ⟨w.heap.size + 1, 2, none⟩ (.slice A n C) (.inr (by simp))
        replace r1 := cell_set r1 ⟨w.heap.size + 1, 2, none⟩ (.slice A n C) (.inr (by simp))
        replace r2 := World.cell?_setCell_same _ _ (.slice A n C) r2
        replace hown2 := own_put hown2 ⟨w.heap.size + 1, 2, none⟩ (.slice A n C) (show w.heap.size + 1 < _ from by omega)
        replace M2 := M2.put ⟨w.heap.size + 1, 2, none⟩ (.slice A n C) (show w.heap.size ≤ w.heap.size + 1 from by omega)
        generalize (((u2.setCell ⟨w.heap.size + 1, 0, none⟩ (.int .i64 x0)).setCell ⟨w.heap.size + 1, 1, none⟩ (.int .i64 x1)).setCell ⟨w.heap.size + 1, 2, none⟩ (.slice A n C)) = WF at *
        exact bodyPost_ret (v := .agg #[.int .i64 x0, .int .i64 x1, .slice A n C]) (by simp [results, Try.results38, go_sem, r0, r1, r2]) rfl ⟨_, _, _, rfl, own_lowR hown2 (by omega), M2⟩
      · have d0 := HX2.out _ hM1
        go_simp
        refine hK _ _ ?_
        clear hK K
        try simp only [Act.put, List.getElem_toArray, List.getElem_cons_succ, List.getElem_cons_zero, List.setIfInBounds_toArray, List.set_cons_zero, List.set_cons_succ]
        clear d0
        refine wpAny_ready (rs := [1, 7]) (by kernel_rfl) (by simp) ?_
        refine (AllReady.cons rfl (fun K hK => ?_) (AllReady.cons rfl (fun K hK => ?_) AllReady.nil))
        · have d0 := HX0.out _ hM1
          go_simp
          refine hK _ _ ?_
          clear hK K
          try simp only [Act.put, List.getElem_toArray, List.getElem_cons_succ, List.getElem_cons_zero, List.setIfInBounds_toArray, List.set_cons_zero, List.set_cons_succ]
          clear d0
          refine wpAny_ready (rs := [7]) (by kernel_rfl) (by simp) ?_
          refine (AllReady.cons rfl (fun K hK => ?_) AllReady.nil)
          refine step_appR (nc := 5) (cell := THop.cell) (by decide) oneHopC (by rfl) (.tmp 7) (.tmp 9) 80 (by rfl) WW.heap.size 115 i0 _ Try.underlying80 hi0 hz0 rfl hz1 (by rw [hz2]; decide) _ [] 0 (by rfl) hA a n c zs (by rfl) HC.out ((HH.out _ hM1).mono (Nat.le_trans hB (M0.trans hM1).size)) (by omega) hM1.size ?_
          intro v2 u2 hown2 hgr2 hat2
          refine hK _ _ ?_
          clear hK K
          try simp only [Act.put, List.getElem_toArray, List.getElem_cons_succ, List.getElem_cons_zero, List.setIfInBounds_toArray, List.set_cons_zero, List.set_cons_succ]
          have hM2 := mk_grewR hM1 hgr2 (fun g e => (hA.lt g e).1)
          simp only [Nat.zero_add, List.nil_append] at hown2
          obtain ⟨A, C, rfl, hca, hcb⟩ := ownsRow_sliceR2 hown2
          clear hA hgr2 hat2 hca hcb
          refine wpAny_take (i := 8) (v := _) rfl (by kernel_rfl) (by kernel_rfl) (by kernel_rfl) (fun _ _ _ h => h) (Or.inl ⟨by rfl, fun w => by go_simp; try with_reducible rfl⟩) ?_
          try simp only [Act.put, List.getElem_toArray, List.getElem_cons_succ, List.getElem_cons_zero, List.setIfInBounds_toArray, List.set_cons_zero, List.set_cons_succ]
          refine wpAny_ready (rs := [9]) (by kernel_rfl) (by simp) ?_
          refine (AllReady.cons rfl (fun K hK => ?_) AllReady.nil)
          have q0 := HR0.out _ hM2
          have q1 := HR1.out _ hM2
          have q2 := HR2.out _ hM2
          have fq := HFR.out _ hM2
          go_simp
          refine hK _ _ ?_
          clear hK K
          try simp only [Act.put, List.getElem_toArray, List.getElem_cons_succ, List.getElem_cons_zero, List.setIfInBounds_toArray, List.set_cons_zero, List.set_cons_succ]
          refine wpAny_done (by kernel_rfl) ?_ _
          refine ‹∀ (a : Act) (w : World), _ → _› _ _ ?_
          have zz2 := hM2.size
          have M2 := M0.trans hM2
          have r0 := HR0.out _ hM2
          have r1 := HR1.out _ hM2
          have r2 := HR2.out _ hM2
          clear HX0 HX1 HX2 HR0 HR1 HR2 HFR HH
          go_wp2_with fail
          replace r0 := World.cell?_setCell_same _ _ (.int .i64 x0) r0
          replace r1 := cell_set r1 ⟨w.heap.size + 1, 0, none⟩ (.int .i64 x0) (.inr (by simp))
          replace r2 := cell_set r2 ⟨w.heap.size + 1, 0, none⟩ (.int .i64 x0) (.inr (by simp))
          replace hown2 := own_put hown2 ⟨w.heap.size + 1, 0, none⟩ (.int .i64 x0) (show w.heap.size + 1 < _ from by omega)
          replace M2 := M2.put ⟨w.heap.size + 1, 0, none⟩ (.int .i64 x0) (show w.heap.size ≤ w.heap.size + 1 from by omega)
          replace r0 := cell_set r0 ⟨w.heap.size + 1, 1, none⟩ (.int .i64 x1) (.inr (by simp))
          replace r1 := World.cell?_setCell_same _ _ (.int .i64 x1) r1
          replace r2 := cell_set r2 ⟨w.heap.size + 1, 1, none⟩ (.int .i64 x1) (.inr (by simp))
          replace hown2 := own_put hown2 ⟨w.heap.size + 1, 1, none⟩ (.int .i64 x1) (show w.heap.size + 1 < _ from by omega)
          replace M2 := M2.put ⟨w.heap.size + 1, 1, none⟩ (.int .i64 x1) (show w.heap.size ≤ w.heap.size + 1 from by omega)
          replace r0 := cell_set r0 ⟨w.heap.size + 1, 2, none⟩ (.slice A n C) (.inr (by simp))
          replace r1 := cell_set r1 ⟨w.heap.size + 1, 2, none⟩ (.slice A n C) (.inr (by simp))
          replace r2 := World.cell?_setCell_same _ _ (.slice A n C) r2
          replace hown2 := own_put hown2 ⟨w.heap.size + 1, 2, none⟩ (.slice A n C) (show w.heap.size + 1 < _ from by omega)
          replace M2 := M2.put ⟨w.heap.size + 1, 2, none⟩ (.slice A n C) (show w.heap.size ≤ w.heap.size + 1 from by omega)
          generalize (((u2.setCell ⟨w.heap.size + 1, 0, none⟩ (.int .i64 x0)).setCell ⟨w.heap.size + 1, 1, none⟩ (.int .i64 x1)).setCell ⟨w.heap.size + 1, 2, none⟩ (.slice A n C)) = WF at *
          exact bodyPost_ret (v := .agg #[.int .i64 x0, .int .i64 x1, .slice A n C]) (by simp [results, Try.results38, go_sem, r0, r1, r2]) rfl ⟨_, _, _, rfl, own_lowR hown2 (by omega), M2⟩
        · refine step_appR (nc := 5) (cell := THop.cell) (by decide) oneHopC (by rfl) (.tmp 7) (.tmp 9) 80 (by rfl) WW.heap.size 115 i0 _ Try.underlying80 hi0 hz0 rfl hz1 (by rw [hz2]; decide) _ [] 0 (by rfl) hA a n c zs (by rfl) HC.out ((HH.out _ hM1).mono (Nat.le_trans hB (M0.trans hM1).size)) (by omega) hM1.size ?_
          intro v2 u2 hown2 hgr2 hat2
          refine hK _ _ ?_
          clear hK K
          try simp only [Act.put, List.getElem_toArray, List.getElem_cons_succ, List.getElem_cons_zero, List.setIfInBounds_toArray, List.set_cons_zero, List.set_cons_succ]
          have hM2 := mk_grewR hM1 hgr2 (fun g e => (hA.lt g e).1)
          simp only [Nat.zero_add, List.nil_append] at hown2
          obtain ⟨A, C, rfl, hca, hcb⟩ := ownsRow_sliceR2 hown2
          clear hA hgr2 hat2 hca hcb
          refine wpAny_ready (rs := [1]) (by kernel_rfl) (by simp) ?_
          refine (AllReady.cons rfl (fun K hK => ?_) AllReady.nil)
          have d0 := HX0.out _ hM2
          go_simp
          refine hK _ _ ?_
          clear hK K
          try simp only [Act.put, List.getElem_toArray, List.getElem_cons_succ, List.getElem_cons_zero, List.setIfInBounds_toArray, List.set_cons_zero, List.set_cons_succ]
          clear d0
          refine wpAny_take (i := 8) (v := _) rfl (by kernel_rfl) (by kernel_rfl) (by kernel_rfl) (fun _ _ _ h => h) (Or.inl ⟨by rfl, fun w => by go_simp; try with_reducible rfl⟩) ?_
          try simp only [Act.put, List.getElem_toArray, List.getElem_cons_succ, List.getElem_cons_zero, List.setIfInBounds_toArray, List.set_cons_zero, List.set_cons_succ]
          refine wpAny_ready (rs := [9]) (by kernel_rfl) (by simp) ?_
          refine (AllReady.cons rfl (fun K hK => ?_) AllReady.nil)
          have q0 := HR0.out _ hM2
          have q1 := HR1.out _ hM2
          have q2 := HR2.out _ hM2
          have fq := HFR.out _ hM2
          go_simp
          refine hK _ _ ?_
          clear hK K
          try simp only [Act.put, List.getElem_toArray, List.getElem_cons_succ, List.getElem_cons_zero, List.setIfInBounds_toArray, List.set_cons_zero, List.set_cons_succ]
          refine wpAny_done (by kernel_rfl) ?_ _
          refine ‹∀ (a : Act) (w : World), _ → _› _ _ ?_
          have zz2 := hM2.size
          have M2 := M0.trans hM2
          have r0 := HR0.out _ hM2
          have r1 := HR1.out _ hM2
          have r2 := HR2.out _ hM2
          clear HX0 HX1 HX2 HR0 HR1 HR2 HFR HH
          go_wp2_with fail
          replace r0 := World.cell?_setCell_same _ _ (.int .i64 x0) r0
          replace r1 := cell_set r1 ⟨w.heap.size + 1, 0, none⟩ (.int .i64 x0) (.inr (by simp))
          replace r2 := cell_set r2 ⟨w.heap.size + 1, 0, none⟩ (.int .i64 x0) (.inr (by simp))
          replace hown2 := own_put hown2 ⟨w.heap.size + 1, 0, none⟩ (.int .i64 x0) (show w.heap.size + 1 < _ from by omega)
          replace M2 := M2.put ⟨w.heap.size + 1, 0, none⟩ (.int .i64 x0) (show w.heap.size ≤ w.heap.size + 1 from by omega)
          replace r0 := cell_set r0 ⟨w.heap.size + 1, 1, none⟩ (.int .i64 x1) (.inr (by simp))
          replace r1 := World.cell?_setCell_same _ _ (.int .i64 x1) r1
          replace r2 := cell_set r2 ⟨w.heap.size + 1, 1, none⟩ (.int .i64 x1) (.inr (by simp))
          replace hown2 := own_put hown2 ⟨w.heap.size + 1, 1, none⟩ (.int .i64 x1) (show w.heap.size + 1 < _ from by omega)
          replace M2 := M2.put ⟨w.heap.size + 1, 1, none⟩ (.int .i64 x1) (show w.heap.size ≤ w.heap.size + 1 from by omega)
          replace r0 := cell_set r0 ⟨w.heap.size + 1, 2, none⟩ (.slice A n C) (.inr (by simp))
          replace r1 := cell_set r1 ⟨w.heap.size + 1, 2, none⟩ (.slice A n C) (.inr (by simp))
          replace r2 := World.cell?_setCell_same _ _ (.slice A n C) r2
          replace hown2 := own_put hown2 ⟨w.heap.size + 1, 2, none⟩ (.slice A n C) (show w.heap.size + 1 < _ from by omega)
          replace M2 := M2.put ⟨w.heap.size + 1, 2, none⟩ (.slice A n C) (show w.heap.size ≤ w.heap.size + 1 from by omega)
          generalize (((u2.setCell ⟨w.heap.size + 1, 0, none⟩ (.int .i64 x0)).setCell ⟨w.heap.size + 1, 1, none⟩ (.int .i64 x1)).setCell ⟨w.heap.size + 1, 2, none⟩ (.slice A n C)) = WF at *
          exact bodyPost_ret (v := .agg #[.int .i64 x0, .int .i64 x1, .slice A n C]) (by simp [results, Try.results38, go_sem, r0, r1, r2]) rfl ⟨_, _, _, rfl, own_lowR hown2 (by omega), M2⟩
    · have d0 := HX2.out _ hM1
      go_simp
      refine hK _ _ ?_
      clear hK K
      try simp only [Act.put, List.getElem_toArray, List.getElem_cons_succ, List.getElem_cons_zero, List.setIfInBounds_toArray, List.set_cons_zero, List.set_cons_succ]
      clear d0
      refine wpAny_ready (rs := [1, 3, 7]) (by kernel_rfl) (by simp) ?_
      refine (AllReady.cons rfl (fun K hK => ?_) (AllReady.cons rfl (fun K hK => ?_) (AllReady.cons rfl (fun K hK => ?_) AllReady.nil)))
      · have d0 := HX0.out _ hM1
        go_simp
        refine hK _ _ ?_
        clear hK K
        try simp only [Act.put, List.getElem_toArray, List.getElem_cons_succ, List.getElem_cons_zero, List.setIfInBounds_toArray, List.set_cons_zero, List.set_cons_succ]
        clear d0
        refine wpAny_ready (rs := [3, 7]) (by kernel_rfl) (by simp) ?_
        refine (AllReady.cons rfl (fun K hK => ?_) (AllReady.cons rfl (fun K hK => ?_) AllReady.nil))
        · have d0 := HX1.out _ hM1
          go_simp
          refine hK _ _ ?_
          clear hK K
          try simp only [Act.put, List.getElem_toArray, List.getElem_cons_succ, List.getElem_cons_zero, List.setIfInBounds_toArray, List.set_cons_zero, List.set_cons_succ]
          clear d0
          refine wpAny_ready (rs := [7]) (by kernel_rfl) (by simp) ?_
          refine (AllReady.cons rfl (fun K hK => ?_) AllReady.nil)
          refine step_appR (nc := 5) (cell := THop.cell) (by decide) oneHopC (by rfl) (.tmp 7) (.tmp 9) 80 (by rfl) WW.heap.size 115 i0 _ Try.underlying80 hi0 hz0 rfl hz1 (by rw [hz2]; decide) _ [] 0 (by rfl) hA a n c zs (by rfl) HC.out ((HH.out _ hM1).mono (Nat.le_trans hB (M0.trans hM1).size)) (by omega) hM1.size ?_
          intro v2 u2 hown2 hgr2 hat2
          refine hK _ _ ?_
          clear hK K
          try simp only [Act.put, List.getElem_toArray, List.getElem_cons_succ, List.getElem_cons_zero, List.setIfInBounds_toArray, List.set_cons_zero, List.set_cons_succ]
          have hM2 := mk_grewR hM1 hgr2 (fun g e => (hA.lt g e).1)
          simp only [Nat.zero_add, List.nil_append] at hown2
          obtain ⟨A, C, rfl, hca, hcb⟩ := ownsRow_sliceR2 hown2
          clear hA hgr2 hat2 hca hcb
          refine wpAny_take (i := 8) (v := _) rfl (by kernel_rfl) (by kernel_rfl) (by kernel_rfl) (fun _ _ _ h => h) (Or.inl ⟨by rfl, fun w => by go_simp; try with_reducible rfl⟩) ?_
          try simp only [Act.put, List.getElem_toArray, List.getElem_cons_succ, List.getElem_cons_zero, List.setIfInBounds_toArray, List.set_cons_zero, List.set_cons_succ]
          refine wpAny_ready (rs := [9]) (by kernel_rfl) (by simp) ?_
          refine (AllReady.cons rfl (fun K hK => ?_) AllReady.nil)
          have q0 := HR0.out _ hM2
          have q1 := HR1.out _ hM2
          have q2 := HR2.out _ hM2
          have fq := HFR.out _ hM2
          go_simp
          refine hK _ _ ?_
          clear hK K
          try simp only [Act.put, List.getElem_toArray, List.getElem_cons_succ, List.getElem_cons_zero, List.setIfInBounds_toArray, List.set_cons_zero, List.set_cons_succ]
          refine wpAny_done (by kernel_rfl) ?_ _
          refine ‹∀ (a : Act) (w : World), _ → _› _ _ ?_
          have zz2 := hM2.size
          have M2 := M0.trans hM2
          have r0 := HR0.out _ hM2
          have r1 := HR1.out _ hM2
          have r2 := HR2.out _ hM2
          clear HX0 HX1 HX2 HR0 HR1 HR2 HFR HH
          go_wp2_with fail
          replace r0 := World.cell?_setCell_same _ _ (.int .i64 x0) r0
          replace r1 := cell_set r1 ⟨w.heap.size + 1, 0, none⟩ (.int .i64 x0) (.inr (by simp))
          replace r2 := cell_set r2 ⟨w.heap.size + 1, 0, none⟩ (.int .i64 x0) (.inr (by simp))
          replace hown2 := own_put hown2 ⟨w.heap.size + 1, 0, none⟩ (.int .i64 x0) (show w.heap.size + 1 < _ from by omega)
          replace M2 := M2.put ⟨w.heap.size + 1, 0, none⟩ (.int .i64 x0) (show w.heap.size ≤ w.heap.size + 1 from by omega)
          replace r0 := cell_set r0 ⟨w.heap.size + 1, 1, none⟩ (.int .i64 x1) (.inr (by simp))
          replace r1 := World.cell?_setCell_same _ _ (.int .i64 x1) r1
          replace r2 := cell_set r2 ⟨w.heap.size + 1, 1, none⟩ (.int .i64 x1) (.inr (by simp))
          replace hown2 := own_put hown2 ⟨w.heap.size + 1, 1, none⟩ (.int .i64 x1) (show w.heap.size + 1 < _ from by omega)
          replace M2 := M2.put ⟨w.heap.size + 1, 1, none⟩ (.int .i64 x1) (show w.heap.size ≤ w.heap.size + 1 from by omega)
          replace r0 := cell_set r0 ⟨w.heap.size + 1, 2, none⟩ (.slice A n C) (.inr (by simp))
          replace r1 := cell_set r1 ⟨w.heap.size + 1, 2, none⟩ (.slice A n C) (.inr (by simp))
          replace r2 := World.cell?_setCell_same _ _ (.slice A n C) r2
          replace hown2 := own_put hown2 ⟨w.heap.size + 1, 2, none⟩ (.slice A n C) (show w.heap.size + 1 < _ from by omega)
          replace M2 := M2.put ⟨w.heap.size + 1, 2, none⟩ (.slice A n C) (show w.heap.size ≤ w.heap.size + 1 from by omega)
          generalize (((u2.setCell ⟨w.heap.size + 1, 0, none⟩ (.int .i64 x0)).setCell ⟨w.heap.size + 1, 1, none⟩ (.int .i64 x1)).setCell ⟨w.heap.size + 1, 2, none⟩ (.slice A n C)) = WF at *
          exact bodyPost_ret (v := .agg #[.int .i64 x0, .int .i64 x1, .slice A n C]) (by simp [results, Try.results38, go_sem, r0, r1, r2]) rfl ⟨_, _, _, rfl, own_lowR hown2 (by omega), M2⟩
        · refine step_appR (nc := 5) (cell := THop.cell) (by decide) oneHopC (by rfl) (.tmp 7) (.tmp 9) 80 (by rfl) WW.heap.size 115 i0 _ Try.underlying80 hi0 hz0 rfl hz1 (by rw [hz2]; decide) _ [] 0 (by rfl) hA a n c zs (by rfl) HC.out ((HH.out _ hM1).mono (Nat.le_trans hB (M0.trans hM1).size)) (by omega) hM1.size ?_
          intro v2 u2 hown2 hgr2 hat2
          refine hK _ _ ?_
          clear hK K
          try simp only [Act.put, List.getElem_toArray, List.getElem_cons_succ, List.getElem_cons_zero, List.setIfInBounds_toArray, List.set_cons_zero, List.set_cons_succ]
          have hM2 := mk_grewR hM1 hgr2 (fun g e => (hA.lt g e).1)
          simp only [Nat.zero_add, List.nil_append] at hown2
          obtain ⟨A, C, rfl, hca, hcb⟩ := ownsRow_sliceR2 hown2
          clear hA hgr2 hat2 hca hcb
          refine wpAny_ready (rs := [3]) (by kernel_rfl) (by simp) ?_
          refine (AllReady.cons rfl (fun K hK => ?_) AllReady.nil)
          have d0 := HX1.out _ hM2
          go_simp
          refine hK _ _ ?_
          clear hK K
          try simp only [Act.put, List.getElem_toArray, List.getElem_cons_succ, List.getElem_cons_zero, List.setIfInBounds_toArray, List.set_cons_zero, List.set_cons_succ]
          clear d0
          refine wpAny_take (i := 8) (v := _) rfl (by kernel_rfl) (by kernel_rfl) (by kernel_rfl) (fun _ _ _ h => h) (Or.inl ⟨by rfl, fun w => by go_simp; try with_reducible rfl⟩) ?_
          try simp only [Act.put, List.getElem_toArray, List.getElem_cons_succ, List.getElem_cons_zero, List.setIfInBounds_toArray, List.set_cons_zero, List.set_cons_succ]
          refine wpAny_ready (rs := [9]) (by kernel_rfl) (by simp) ?_
          refine (AllReady.cons rfl (fun K hK => ?_) AllReady.nil)
          have q0 := HR0.out _ hM2
          have q1 := HR1.out _ hM2
          have q2 := HR2.out _ hM2
          have fq := HFR.out _ hM2
          go_simp
          refine hK _ _ ?_
          clear hK K
          try simp only [Act.put, List.getElem_toArray, List.getElem_cons_succ, List.getElem_cons_zero, List.setIfInBounds_toArray, List.set_cons_zero, List.set_cons_succ]
          refine wpAny_done (by kernel_rfl) ?_ _
          refine ‹∀ (a : Act) (w : World), _ → _› _ _ ?_
          have zz2 := hM2.size
          have M2 := M0.trans hM2
          have r0 := HR0.out _ hM2
          have r1 := HR1.out _ hM2
          have r2 := HR2.out _ hM2
          clear HX0 HX1 HX2 HR0 HR1 HR2 HFR HH
          go_wp2_with fail
          replace r0 := World.cell?_setCell_same _ _ (.int .i64 x0) r0
          replace r1 := cell_set r1 ⟨w.heap.size + 1, 0, none⟩ (.int .i64 x0) (.inr (by simp))
          replace r2 := cell_set r2 ⟨w.heap.size + 1, 0, none⟩ (.int .i64 x0) (.inr (by simp))
          replace hown2 := own_put hown2 ⟨w.heap.size + 1, 0, none⟩ (.int .i64 x0) (show w.heap.size + 1 < _ from by omega)
          replace M2 := M2.put ⟨w.heap.size + 1, 0, none⟩ (.int .i64 x0) (show w.heap.size ≤ w.heap.size + 1 from by omega)
          replace r0 := cell_set r0 ⟨w.heap.size + 1, 1, none⟩ (.int .i64 x1) (.inr (by simp))
          replace r1 := World.cell?_setCell_same _ _ (.int .i64 x1) r1
          replace r2 := cell_set r2 ⟨w.heap.size + 1, 1, none⟩ (.int .i64 x1) (.inr (by simp))
          replace hown2 := own_put hown2 ⟨w.heap.size + 1, 1, none⟩ (.int .i64 x1) (show w.heap.size + 1 < _ from by omega)
          replace M2 := M2.put ⟨w.heap.size + 1, 1, none⟩ (.int .i64 x1) (show w.heap.size ≤ w.heap.size + 1 from by omega)
          replace r0 := cell_set r0 ⟨w.heap.size + 1, 2, none⟩ (.slice A n C) (.inr (by simp))
          replace r1 := cell_set r1 ⟨w.heap.size + 1, 2, none⟩ (.slice A n C) (.inr (by simp))
          replace r2 := World.cell?_setCell_same _ _ (.slice A n C) r2
          replace hown2 := own_put hown2 ⟨w.heap.size + 1, 2, none⟩ (.slice A n C) (show w.heap.size + 1 < _ from by omega)
          replace M2 := M2.put ⟨w.heap.size + 1, 2, none⟩ (.slice A n C) (show w.heap.size ≤ w.heap.size + 1 from by omega)
          generalize (((u2.setCell ⟨w.heap.size + 1, 0, none⟩ (.int .i64 x0)).setCell ⟨w.heap.size + 1, 1, none⟩ (.int .i64 x1)).setCell ⟨w.heap.size + 1, 2, none⟩ (.slice A n C)) = WF at *
          exact bodyPost_ret (v := .agg #[.int .i64 x0, .int .i64 x1, .slice A n C]) (by simp [results, Try.results38, go_sem, r0, r1, r2]) rfl ⟨_, _, _, rfl, own_lowR hown2 (by omega), M2⟩
      · have d0 := HX1.out _ hM1
        go_simp
        refine hK _ _ ?_
        clear hK K
        try simp only [Act.put, List.getElem_toArray, List.getElem_cons_succ, List.getElem_cons_zero, List.setIfInBounds_toArray, List.set_cons_zero, List.set_cons_succ]
        clear d0
        refine wpAny_ready (rs := [1, 7]) (by kernel_rfl) (by simp) ?_
        refine (AllReady.cons rfl (fun K hK => ?_) (AllReady.cons rfl (fun K hK => ?_) AllReady.nil))
        · have d0 := HX0.out _ hM1
          go_simp
          refine hK _ _ ?_
          clear hK K
          try simp only [Act.put, List.getElem_toArray, List.getElem_cons_succ, List.getElem_cons_zero, List.setIfInBounds_toArray, List.set_cons_zero, List.set_cons_succ]
          clear d0
          refine wpAny_ready (rs := [7]) (by kernel_rfl) (by simp) ?_
          refine (AllReady.cons rfl (fun K hK => ?_) AllReady.nil)
          refine step_appR (nc := 5) (cell := THop.cell) (by decide) oneHopC (by rfl) (.tmp 7) (.tmp 9) 80 (by rfl) WW.heap.size 115 i0 _ Try.underlying80 hi0 hz0 rfl hz1 (by rw [hz2]; decide) _ [] 0 (by rfl) hA a n c zs (by rfl) HC.out ((HH.out _ hM1).mono (Nat.le_trans hB (M0.trans hM1).size)) (by omega) hM1.size ?_
          intro v2 u2 hown2 hgr2 hat2
          refine hK _ _ ?_
          clear hK K
          try simp only [Act.put, List.getElem_toArray, List.getElem_cons_succ, List.getElem_cons_zero, List.setIfInBounds_toArray, List.set_cons_zero, List.set_cons_succ]
          have hM2 := mk_grewR hM1 hgr2 (fun g e => (hA.lt g e).1)
          simp only [Nat.zero_add, List.nil_append] at hown2
          obtain ⟨A, C, rfl, hca, hcb⟩ := ownsRow_sliceR2 hown2
          clear hA hgr2 hat2 hca hcb
          refine wpAny_take (i := 8) (v := _) rfl (by kernel_rfl) (by kernel_rfl) (by kernel_rfl) (fun _ _ _ h => h) (Or.inl ⟨by rfl, fun w => by go_simp; try with_reducible rfl⟩) ?_
          try simp only [Act.put, List.getElem_toArray, List.getElem_cons_succ, List.getElem_cons_zero, List.setIfInBounds_toArray, List.set_cons_zero, List.set_cons_succ]
          refine wpAny_ready (rs := [9]) (by kernel_rfl) (by simp) ?_
          refine (AllReady.cons rfl (fun K hK => ?_) AllReady.nil)
          have q0 := HR0.out _ hM2
          have q1 := HR1.out _ hM2
          have q2 := HR2.out _ hM2
          have fq := HFR.out _ hM2
          go_simp
          refine hK _ _ ?_
          clear hK K
          try simp only [Act.put, List.getElem_toArray, List.getElem_cons_succ, List.getElem_cons_zero, List.setIfInBounds_toArray, List.set_cons_zero, List.set_cons_succ]
          refine wpAny_done (by kernel_rfl) ?_ _
          refine ‹∀ (a : Act) (w : World), _ → _› _ _ ?_
          have zz2 := hM2.size
          have M2 := M0.trans hM2
          have r0 := HR0.out _ hM2
          have r1 := HR1.out _ hM2
          have r2 := HR2.out _ hM2
          clear HX0 HX1 HX2 HR0 HR1 HR2 HFR HH
          go_wp2_with fail
          replace r0 := World.cell?_setCell_same _ _ (.int .i64 x0) r0
          replace r1 := cell_set r1 ⟨w.heap.size + 1, 0, none⟩ (.int .i64 x0) (.inr (by simp))
          replace r2 := cell_set r2 ⟨w.heap.size + 1, 0, none⟩ (.int .i64 x0) (.inr (by simp))
          replace hown2 := own_put hown2 ⟨w.heap.size + 1, 0, none⟩ (.int .i64 x0) (show w.heap.size + 1 < _ from by omega)
          replace M2 := M2.put ⟨w.heap.size + 1, 0, none⟩ (.int .i64 x0) (show w.heap.size ≤ w.heap.size + 1 from by omega)
          replace r0 := cell_set r0 ⟨w.heap.size + 1, 1, none⟩ (.int .i64 x1) (.inr (by simp))
          replace r1 := World.cell?_setCell_same _ _ (.int .i64 x1) r1
          replace r2 := cell_set r2 ⟨w.heap.size + 1, 1, none⟩ (.int .i64 x1) (.inr (by simp))
          replace hown2 := own_put hown2 ⟨w.heap.size + 1, 1, none⟩ (.int .i64 x1) (show w.heap.size + 1 < _ from by omega)
          replace M2 := M2.put ⟨w.heap.size + 1, 1, none⟩ (.int .i64 x1) (show w.heap.size ≤ w.heap.size + 1 from by omega)
          replace r0 := cell_set r0 ⟨w.heap.size + 1, 2, none⟩ (.slice A n C) (.inr (by simp))
          replace r1 := cell_set r1 ⟨w.heap.size + 1, 2, none⟩ (.slice A n C) (.inr (by simp))
          replace r2 := World.cell?_setCell_same _ _ (.slice A n C) r2
          replace hown2 := own_put hown2 ⟨w.heap.size + 1, 2, none⟩ (.slice A n C) (show w.heap.size + 1 < _ from by omega)
          replace M2 := M2.put ⟨w.heap.size + 1, 2, none⟩ (.slice A n C) (show w.heap.size ≤ w.heap.size + 1 from by omega)
          generalize (((u2.setCell ⟨w.heap.size + 1, 0, none⟩ (.int .i64 x0)).setCell ⟨w.heap.size + 1, 1, none⟩ (.int .i64 x1)).setCell ⟨w.heap.size + 1, 2, none⟩ (.slice A n C)) = WF at *
          exact bodyPost_ret (v := .agg #[.int .i64 x0, .int .i64 x1, .slice A n C]) (by simp [results, Try.results38, go_sem, r0, r1, r2]) rfl ⟨_, _, _, rfl, own_lowR hown2 (by omega), M2⟩
        · refine step_appR (nc := 5) (cell := THop.cell) (by decide) oneHopC (by rfl) (.tmp 7) (.tmp 9) 80 (by rfl) WW.heap.size 115 i0 _ Try.underlying80 hi0 hz0 rfl hz1 (by rw [hz2]; decide) _ [] 0 (by rfl) hA a n c zs (by rfl) HC.out ((HH.out _ hM1).mono (Nat.le_trans hB (M0.trans hM1).size)) (by omega) hM1.size ?_
          intro v2 u2 hown2 hgr2 hat2
          refine hK _ _ ?_
          clear hK K
          try simp only [Act.put, List.getElem_toArray, List.getElem_cons_succ, List.getElem_cons_zero, List.setIfInBounds_toArray, List.set_cons_zero, List.set_cons_succ]
          have hM2 := mk_grewR hM1 hgr2 (fun g e => (hA.lt g e).1)
          simp only [Nat.zero_add, List.nil_append] at hown2
          obtain ⟨A, C, rfl, hca, hcb⟩ := ownsRow_sliceR2 hown2
          clear hA hgr2 hat2 hca hcb
          refine wpAny_ready (rs := [1]) (by kernel_rfl) (by simp) ?_
          refine (AllReady.cons rfl (fun K hK => ?_) AllReady.nil)
          have d0 := HX0.out _ hM2
          go_simp
          refine hK _ _ ?_
          clear hK K
          try simp only [Act.put, List.getElem_toArray, List.getElem_cons_succ, List.getElem_cons_zero, List.setIfInBounds_toArray, List.set_cons_zero, List.set_cons_succ]
          clear d0
          refine wpAny_take (i := 8) (v := _) rfl (by kernel_rfl) (by kernel_rfl) (by kernel_rfl) (fun _ _ _ h => h) (Or.inl ⟨by rfl, fun w => by go_simp; try with_reducible rfl⟩) ?_
          try simp only [Act.put, List.getElem_toArray, List.getElem_cons_succ, List.getElem_cons_zero, List.setIfInBounds_toArray, List.set_cons_zero, List.set_cons_succ]
          refine wpAny_ready (rs := [9]) (by kernel_rfl) (by simp) ?_
          refine (AllReady.cons rfl (fun K hK => ?_) AllReady.nil)
          have q0 := HR0.out _ hM2
          have q1 := HR1.out _ hM2
          have q2 := HR2.out _ hM2
          have fq := HFR.out _ hM2
          go_simp
          refine hK _ _ ?_
          clear hK K
          try simp only [Act.put, List.getElem_toArray, List.getElem_cons_succ, List.getElem_cons_zero, List.setIfInBounds_toArray, List.set_cons_zero, List.set_cons_succ]
          refine wpAny_done (by kernel_rfl) ?_ _
          refine ‹∀ (a : Act) (w : World), _ → _› _ _ ?_
          have zz2 := hM2.size
          have M2 := M0.trans hM2
          have r0 := HR0.out _ hM2
          have r1 := HR1.out _ hM2
          have r2 := HR2.out _ hM2
          clear HX0 HX1 HX2 HR0 HR1 HR2 HFR HH
          go_wp2_with fail
          replace r0 := World.cell?_setCell_same _ _ (.int .i64 x0) r0
          replace r1 := cell_set r1 ⟨w.heap.size + 1, 0, none⟩ (.int .i64 x0) (.inr (by simp))
          replace r2 := cell_set r2 ⟨w.heap.size + 1, 0, none⟩ (.int .i64 x0) (.inr (by simp))
          replace hown2 := own_put hown2 ⟨w.heap.size + 1, 0, none⟩ (.int .i64 x0) (show w.heap.size + 1 < _ from by omega)
          replace M2 := M2.put ⟨w.heap.size + 1, 0, none⟩ (.int .i64 x0) (show w.heap.size ≤ w.heap.size + 1 from by omega)
          replace r0 := cell_set r0 ⟨w.heap.size + 1, 1, none⟩ (.int .i64 x1) (.inr (by simp))
          replace r1 := World.cell?_setCell_same _ _ (.int .i64 x1) r1
          replace r2 := cell_set r2 ⟨w.heap.size + 1, 1, none⟩ (.int .i64 x1) (.inr (by simp))
          replace hown2 := own_put hown2 ⟨w.heap.size + 1, 1, none⟩ (.int .i64 x1) (show w.heap.size + 1 < _ from by omega)
          replace M2 := M2.put ⟨w.heap.size + 1, 1, none⟩ (.int .i64 x1) (show w.heap.size ≤ w.heap.size + 1 from by omega)
          replace r0 := cell_set r0 ⟨w.heap.size + 1, 2, none⟩ (.slice A n C) (.inr (by simp))
          replace r1 := cell_set r1 ⟨w.heap.size + 1, 2, none⟩ (.slice A n C) (.inr (by simp))
          replace r2 := World.cell?_setCell_same _ _ (.slice A n C) r2
          replace hown2 := own_put hown2 ⟨w.heap.size + 1, 2, none⟩ (.slice A n C) (show w.heap.size + 1 < _ from by omega)
          replace M2 := M2.put ⟨w.heap.size + 1, 2, none⟩ (.slice A n C) (show w.heap.size ≤ w.heap.size + 1 from by omega)
          generalize (((u2.setCell ⟨w.heap.size + 1, 0, none⟩ (.int .i64 x0)).setCell ⟨w.heap.size + 1, 1, none⟩ (.int .i64 x1)).setCell ⟨w.heap.size + 1, 2, none⟩ (.slice A n C)) = WF at *
          exact bodyPost_ret (v := .agg #[.int .i64 x0, .int .i64 x1, .slice A n C]) (by simp [results, Try.results38, go_sem, r0, r1, r2]) rfl ⟨_, _, _, rfl, own_lowR hown2 (by omega), M2⟩
      · refine step_appR (nc := 5) (cell := THop.cell) (by decide) oneHopC (by rfl) (.tmp 7) (.tmp 9) 80 (by rfl) WW.heap.size 115 i0 _ Try.underlying80 hi0 hz0 rfl hz1 (by rw [hz2]; decide) _ [] 0 (by rfl) hA a n c zs (by rfl) HC.out ((HH.out _ hM1).mono (Nat.le_trans hB (M0.trans hM1).size)) (by omega) hM1.size ?_
        intro v2 u2 hown2 hgr2 hat2
        refine hK _ _ ?_
        clear hK K
        try simp only [Act.put, List.getElem_toArray, List.getElem_cons_succ, List.getElem_cons_zero, List.setIfInBounds_toArray, List.set_cons_zero, List.set_cons_succ]
        have hM2 := mk_grewR hM1 hgr2 (fun g e => (hA.lt g e).1)
        simp only [Nat.zero_add, List.nil_append] at hown2
        obtain ⟨A, C, rfl, hca, hcb⟩ := ownsRow_sliceR2 hown2
        clear hA hgr2 hat2 hca hcb
        refine wpAny_ready (rs := [1, 3]) (by kernel_rfl) (by simp) ?_
        refine (AllReady.cons rfl (fun K hK => ?_) (AllReady.cons rfl (fun K hK => ?_) AllReady.nil))
        · have d0 := HX0.out _ hM2
          go_simp
          refine hK _ _ ?_
          clear hK K
          try simp only [Act.put, List.getElem_toArray, List.getElem_cons_succ, List.getElem_cons_zero, List.setIfInBounds_toArray, List.set_cons_zero, List.set_cons_succ]
          clear d0
          refine wpAny_ready (rs := [3]) (by kernel_rfl) (by simp) ?_
          refine (AllReady.cons rfl (fun K hK => ?_) AllReady.nil)
          have d0 := HX1.out _ hM2
          go_simp
          refine hK _ _ ?_
          clear hK K
          try simp only [Act.put, List.getElem_toArray, List.getElem_cons_succ, List.getElem_cons_zero, List.setIfInBounds_toArray, List.set_cons_zero, List.set_cons_succ]
          clear d0
          refine wpAny_take (i := 8) (v := _) rfl (by kernel_rfl) (by kernel_rfl) (by kernel_rfl) (fun _ _ _ h => h) (Or.inl ⟨by rfl, fun w => by go_simp; try with_reducible rfl⟩) ?_
          try simp only [Act.put, List.getElem_toArray, List.getElem_cons_succ, List.getElem_cons_zero, List.setIfInBounds_toArray, List.set_cons_zero, List.set_cons_succ]
          refine wpAny_ready (rs := [9]) (by kernel_rfl) (by simp) ?_
          refine (AllReady.cons rfl (fun K hK => ?_) AllReady.nil)
          have q0 := HR0.out _ hM2
          have q1 := HR1.out _ hM2
          have q2 := HR2.out _ hM2
          have fq := HFR.out _ hM2
          go_simp
          refine hK _ _ ?_
          clear hK K
          try simp only [Act.put, List.getElem_toArray, List.getElem_cons_succ, List.getElem_cons_zero, List.setIfInBounds_toArray, List.set_cons_zero, List.set_cons_succ]
          refine wpAny_done (by kernel_rfl) ?_ _
          refine ‹∀ (a : Act) (w : World), _ → _› _ _ ?_
          have zz2 := hM2.size
          have M2 := M0.trans hM2
          have r0 := HR0.out _ hM2
          have r1 := HR1.out _ hM2
          have r2 := HR2.out _ hM2
          clear HX0 HX1 HX2 HR0 HR1 HR2 HFR HH
          go_wp2_with fail
          replace r0 := World.cell?_setCell_same _ _ (.int .i64 x0) r0
          replace r1 := cell_set r1 ⟨w.heap.size + 1, 0, none⟩ (.int .i64 x0) (.inr (by simp))
          replace r2 := cell_set r2 ⟨w.heap.size + 1, 0, none⟩ (.int .i64 x0) (.inr (by simp))
          replace hown2 := own_put hown2 ⟨w.heap.size + 1, 0, none⟩ (.int .i64 x0) (show w.heap.size + 1 < _ from by omega)
          replace M2 := M2.put ⟨w.heap.size + 1, 0, none⟩ (.int .i64 x0) (show w.heap.size ≤ w.heap.size + 1 from by omega)
          replace r0 := cell_set r0 ⟨w.heap.size + 1, 1, none⟩ (.int .i64 x1) (.inr (by simp))
          replace r1 := World.cell?_setCell_same _ _ (.int .i64 x1) r1
          replace r2 := cell_set r2 ⟨w.heap.size + 1, 1, none⟩ (.int .i64 x1) (.inr (by simp))
          replace hown2 := own_put hown2 ⟨w.heap.size + 1, 1, none⟩ (.int .i64 x1) (show w.heap.size + 1 < _ from by omega)
          replace M2 := M2.put ⟨w.heap.size + 1, 1, none⟩ (.int .i64 x1) (show w.heap.size ≤ w.heap.size + 1 from by omega)
          replace r0 := cell_set r0 ⟨w.heap.size + 1, 2, none⟩ (.slice A n C) (.inr (by simp))
          replace r1 := cell_set r1 ⟨w.heap.size + 1, 2, none⟩ (.slice A n C) (.inr (by simp))
          replace r2 := World.cell?_setCell_same _ _ (.slice A n C) r2
          replace hown2 := own_put hown2 ⟨w.heap.size + 1, 2, none⟩ (.slice A n C) (show w.heap.size + 1 < _ from by omega)
          replace M2 := M2.put ⟨w.heap.size + 1, 2, none⟩ (.slice A n C) (show w.heap.size ≤ w.heap.size + 1 from by omega)
          generalize (((u2.setCell ⟨w.heap.size + 1, 0, none⟩ (.int .i64 x0)).setCell ⟨w.heap.size + 1, 1, none⟩ (.int .i64 x1)).setCell ⟨w.heap.size + 1, 2, none⟩ (.slice A n C)) = WF at *
          exact bodyPost_ret (v := .agg #[.int .i64 x0, .int .i64 x1, .slice A n C]) (by simp [results, Try.results38, go_sem, r0, r1, r2]) rfl ⟨_, _, _, rfl, own_lowR hown2 (by omega), M2⟩
        · have d0 := HX1.out _ hM2
          go_simp
          refine hK _ _ ?_
          clear hK K
          try simp only [Act.put, List.getElem_toArray, List.getElem_cons_succ, List.getElem_cons_zero, List.setIfInBounds_toArray, List.set_cons_zero, List.set_cons_succ]
          clear d0
          refine wpAny_ready (rs := [1]) (by kernel_rfl) (by simp) ?_
          refine (AllReady.cons rfl (fun K hK => ?_) AllReady.nil)
          have d0 := HX0.out _ hM2
          go_simp
          refine hK _ _ ?_
          clear hK K
          try simp only [Act.put, List.getElem_toArray, List.getElem_cons_succ, List.getElem_cons_zero, List.setIfInBounds_toArray, List.set_cons_zero, List.set_cons_succ]
          clear d0
          refine wpAny_take (i := 8) (v := _) rfl (by kernel_rfl) (by kernel_rfl) (by kernel_rfl) (fun _ _ _ h => h) (Or.inl ⟨by rfl, fun w => by go_simp; try with_reducible rfl⟩) ?_
          try simp only [Act.put, List.getElem_toArray, List.getElem_cons_succ, List.getElem_cons_zero, List.setIfInBounds_toArray, List.set_cons_zero, List.set_cons_succ]
          refine wpAny_ready (rs := [9]) (by kernel_rfl) (by simp) ?_
          refine (AllReady.cons rfl (fun K hK => ?_) AllReady.nil)
          have q0 := HR0.out _ hM2
          have q1 := HR1.out _ hM2
          have q2 := HR2.out _ hM2
          have fq := HFR.out _ hM2
          go_simp
          refine hK _ _ ?_
          clear hK K
          try simp only [Act.put, List.getElem_toArray, List.getElem_cons_succ, List.getElem_cons_zero, List.setIfInBounds_toArray, List.set_cons_zero, List.set_cons_succ]
          refine wpAny_done (by kernel_rfl) ?_ _
          refine ‹∀ (a : Act) (w : World), _ → _› _ _ ?_
          have zz2 := hM2.size
          have M2 := M0.trans hM2
          have r0 := HR0.out _ hM2
          have r1 := HR1.out _ hM2
          have r2 := HR2.out _ hM2
          clear HX0 HX1 HX2 HR0 HR1 HR2 HFR HH
          go_wp2_with fail
          replace r0 := World.cell?_setCell_same _ _ (.int .i64 x0) r0
          replace r1 := cell_set r1 ⟨w.heap.size + 1, 0, none⟩ (.int .i64 x0) (.inr (by simp))
          replace r2 := cell_set r2 ⟨w.heap.size + 1, 0, none⟩ (.int .i64 x0) (.inr (by simp))
          replace hown2 := own_put hown2 ⟨w.heap.size + 1, 0, none⟩ (.int .i64 x0) (show w.heap.size + 1 < _ from by omega)
          replace M2 := M2.put ⟨w.heap.size + 1, 0, none⟩ (.int .i64 x0) (show w.heap.size ≤ w.heap.size + 1 from by omega)
          replace r0 := cell_set r0 ⟨w.heap.size + 1, 1, none⟩ (.int .i64 x1) (.inr (by simp))
          replace r1 := World.cell?_setCell_same _ _ (.int .i64 x1) r1
          replace r2 := cell_set r2 ⟨w.heap.size + 1, 1, none⟩ (.int .i64 x1) (.inr (by simp))
          replace hown2 := own_put hown2 ⟨w.heap.size + 1, 1, none⟩ (.int .i64 x1) (show w.heap.size + 1 < _ from by omega)
          replace M2 := M2.put ⟨w.heap.size + 1, 1, none⟩ (.int .i64 x1) (show w.heap.size ≤ w.heap.size + 1 from by omega)
          replace r0 := cell_set r0 ⟨w.heap.size + 1, 2, none⟩ (.slice A n C) (.inr (by simp))
          replace r1 := cell_set r1 ⟨w.heap.size + 1, 2, none⟩ (.slice A n C) (.inr (by simp))
          replace r2 := World.cell?_setCell_same _ _ (.slice A n C) r2
          replace hown2 := own_put hown2 ⟨w.heap.size + 1, 2, none⟩ (.slice A n C) (show w.heap.size + 1 < _ from by omega)
          replace M2 := M2.put ⟨w.heap.size + 1, 2, none⟩ (.slice A n C) (show w.heap.size ≤ w.heap.size + 1 from by omega)
          generalize (((u2.setCell ⟨w.heap.size + 1, 0, none⟩ (.int .i64 x0)).setCell ⟨w.heap.size + 1, 1, none⟩ (.int .i64 x1)).setCell ⟨w.heap.size + 1, 2, none⟩ (.slice A n C)) = WF at *
          exact bodyPost_ret (v := .agg #[.int .i64 x0, .int .i64 x1, .slice A n C]) (by simp [results, Try.results38, go_sem, r0, r1, r2]) rfl ⟨_, _, _, rfl, own_lowR hown2 (by omega), M2⟩
  · have d0 := HX2.out _ hM0
    go_simp
    refine hK _ _ ?_
    clear hK K
    try simp only [Act.put, List.getElem_toArray, List.getElem_cons_succ, List.getElem_cons_zero, List.setIfInBounds_toArray, List.set_cons_zero, List.set_cons_succ]
    clear d0
    refine wpAny_ready (rs := [1, 3, 4]) (by kernel_rfl) (by simp) ?_
    refine (AllReady.cons rfl (fun K hK => ?_) (AllReady.cons rfl (fun K hK => ?_) (AllReady.cons rfl (fun K hK => ?_) AllReady.nil)))
    · have d0 := HX0.out _ hM0
      go_simp
      refine hK _ _ ?_
      clear hK K
      try simp only [Act.put, List.getElem_toArray, List.getElem_cons_succ, List.getElem_cons_zero, List.setIfInBounds_toArray, List.set_cons_zero, List.set_cons_succ]
      clear d0
      refine wpAny_ready (rs := [3, 4]) (by kernel_rfl) (by simp) ?_
      refine (AllReady.cons rfl (fun K hK => ?_) (AllReady.cons rfl (fun K hK => ?_) AllReady.nil))
      · have d0 := HX1.out _ hM0
        go_simp
        refine hK _ _ ?_
        clear hK K
        try simp only [Act.put, List.getElem_toArray, List.getElem_cons_succ, List.getElem_cons_zero, List.setIfInBounds_toArray, List.set_cons_zero, List.set_cons_succ]
        clear d0
        refine wpAny_ready (rs := [4]) (by kernel_rfl) (by simp) ?_
        refine (AllReady.cons rfl (fun K hK => ?_) AllReady.nil)
        go_simp
        refine hK _ _ ?_
        clear hK K
        try simp only [Act.put, List.getElem_toArray, List.getElem_cons_succ, List.getElem_cons_zero, List.setIfInBounds_toArray, List.set_cons_zero, List.set_cons_succ]
        have hA := own_emptyR u0 115 5
        have hM1 : Mk0 WW (u0.alloc (.cells #[] 115)) := hM0.new _
        replace hA := own_lowR hA hM0.size
        generalize u0.alloc (.cells #[] 115) = u1 at *
        refine wpAny_ready (rs := [7]) (by kernel_rfl) (by simp) ?_
        refine (AllReady.cons rfl (fun K hK => ?_) AllReady.nil)
        refine step_appR (nc := 5) (cell := THop.cell) (by decide) oneHopC (by rfl) (.tmp 7) (.tmp 9) 80 (by rfl) WW.heap.size 115 i0 _ Try.underlying80 hi0 hz0 rfl hz1 (by rw [hz2]; decide) _ [] 0 (by rfl) hA a n c zs (by rfl) HC.out ((HH.out _ hM1).mono (Nat.le_trans hB (M0.trans hM1).size)) (by omega) hM1.size ?_
        intro v2 u2 hown2 hgr2 hat2
        refine hK _ _ ?_
        clear hK K
        try simp only [Act.put, List.getElem_toArray, List.getElem_cons_succ, List.getElem_cons_zero, List.setIfInBounds_toArray, List.set_cons_zero, List.set_cons_succ]
        have hM2 := mk_grewR hM1 hgr2 (fun g e => (hA.lt g e).1)
        simp only [Nat.zero_add, List.nil_append] at hown2
        obtain ⟨A, C, rfl, hca, hcb⟩ := ownsRow_sliceR2 hown2
        clear hA hgr2 hat2 hca hcb
        refine wpAny_take (i := 8) (v := _) rfl (by kernel_rfl) (by kernel_rfl) (by kernel_rfl) (fun _ _ _ h => h) (Or.inl ⟨by rfl, fun w => by go_simp; try with_reducible rfl⟩) ?_
        try simp only [Act.put, List.getElem_toArray, List.getElem_cons_succ, List.getElem_cons_zero, List.setIfInBounds_toArray, List.set_cons_zero, List.set_cons_succ]
        refine wpAny_ready (rs := [9]) (by kernel_rfl) (by simp) ?_
        refine (AllReady.cons rfl (fun K hK => ?_) AllReady.nil)
        have q0 := HR0.out _ hM2
        have q1 := HR1.out _ hM2
        have q2 := HR2.out _ hM2
        have fq := HFR.out _ hM2
        go_simp
        refine hK _ _ ?_
        clear hK K
        try simp only [Act.put, List.getElem_toArray, List.getElem_cons_succ, List.getElem_cons_zero, List.setIfInBounds_toArray, List.set_cons_zero, List.set_cons_succ]
        refine wpAny_done (by kernel_rfl) ?_ _
        refine ‹∀ (a : Act) (w : World), _ → _› _ _ ?_
        have zz2 := hM2.size
        have M2 := M0.trans hM2
        have r0 := HR0.out _ hM2
        have r1 := HR1.out _ hM2
        have r2 := HR2.out _ hM2
        clear HX0 HX1 HX2 HR0 HR1 HR2 HFR HH
        go_wp2_with fail
        replace r0 := World.cell?_setCell_same _ _ (.int .i64 x0) r0
        replace r1 := cell_set r1 ⟨w.heap.size + 1, 0, none⟩ (.int .i64 x0) (.inr (by simp))
        replace r2 := cell_set r2 ⟨w.heap.size + 1, 0, none⟩ (.int .i64 x0) (.inr (by simp))
        replace hown2 := own_put hown2 ⟨w.heap.size + 1, 0, none⟩ (.int .i64 x0) (show w.heap.size + 1 < _ from by omega)
        replace M2 := M2.put ⟨w.heap.size + 1, 0, none⟩ (.int .i64 x0) (show w.heap.size ≤ w.heap.size + 1 from by omega)
        replace r0 := cell_set r0 ⟨w.heap.size + 1, 1, none⟩ (.int .i64 x1) (.inr (by simp))
        replace r1 := World.cell?_setCell_same _ _ (.int .i64 x1) r1
        replace r2 := cell_set r2 ⟨w.heap.size + 1, 1, none⟩ (.int .i64 x1) (.inr (by simp))
        replace hown2 := own_put hown2 ⟨w.heap.size + 1, 1, none⟩ (.int .i64 x1) (show w.heap.size + 1 < _ from by omega)
        replace M2 := M2.put ⟨w.heap.size + 1, 1, none⟩ (.int .i64 x1) (show w.heap.size ≤ w.heap.size + 1 from by omega)
        replace r0 := cell_set r0 ⟨w.heap.size + 1, 2, none⟩ (.slice A n C) (.inr (by simp))
        replace r1 := cell_set r1 ⟨w.heap.size + 1, 2, none⟩ (.slice A n C) (.inr (by simp))
        replace r2 := World.cell?_setCell_same _ _ (.slice A n C) r2
        replace hown2 := own_put hown2 ⟨w.heap.size + 1, 2, none⟩ (.slice A n C) (show w.heap.size + 1 < _ from by omega)
        replace M2 := M2.put ⟨w.heap.size + 1, 2, none⟩ (.slice A n C) (show w.heap.size ≤ w.heap.size + 1 from by omega)
        generalize (((u2.setCell ⟨w.heap.size + 1, 0, none⟩ (.int .i64 x0)).setCell ⟨w.heap.size + 1, 1, none⟩ (.int .i64 x1)).setCell ⟨w.heap.size + 1, 2, none⟩ (.slice A n C)) = WF at *
        exact bodyPost_ret (v := .agg #[.int .i64 x0, .int .i64 x1, .slice A n C]) (by simp [results, Try.results38, go_sem, r0, r1, r2]) rfl ⟨_, _, _, rfl, own_lowR hown2 (by omega), M2⟩
      · go_simp
        refine hK _ _ ?_
        clear hK K
        try simp only [Act.put, List.getElem_toArray, List.getElem_cons_succ, List.getElem_cons_zero, List.setIfInBounds_toArray, List.set_cons_zero, List.set_cons_succ]
        have hA := own_emptyR u0 115 5
        have hM1 : Mk0 WW (u0.alloc (.cells #[] 115)) := hM0.new _
        replace hA := own_lowR hA hM0.size
        generalize u0.alloc (.cells #[] 115) = u1 at *
        refine wpAny_ready (rs := [3, 7]) (by kernel_rfl) (by simp) ?_
        refine (AllReady.cons rfl (fun K hK => ?_) (AllReady.cons rfl (fun K hK => ?_) AllReady.nil))
        · have d0 := HX1.out _ hM1
          go_simp
          refine hK _ _ ?_
          clear hK K
          try simp only [Act.put, List.getElem_toArray, List.getElem_cons_succ, List.getElem_cons_zero, List.setIfInBounds_toArray, List.set_cons_zero, List.set_cons_succ]
          clear d0
          refine wpAny_ready (rs := [7]) (by kernel_rfl) (by simp) ?_
          refine (AllReady.cons rfl (fun K hK => ?_) AllReady.nil)
          refine step_appR (nc := 5) (cell := THop.cell) (by decide) oneHopC (by rfl) (.tmp 7) (.tmp 9) 80 (by rfl) WW.heap.size 115 i0 _ Try.underlying80 hi0 hz0 rfl hz1 (by rw [hz2]; decide) _ [] 0 (by rfl) hA a n c zs (by rfl) HC.out ((HH.out _ hM1).mono (Nat.le_trans hB (M0.trans hM1).size)) (by omega) hM1.size ?_
          intro v2 u2 hown2 hgr2 hat2
          refine hK _ _ ?_
          clear hK K
          try simp only [Act.put, List.getElem_toArray, List.getElem_cons_succ, List.getElem_cons_zero, List.setIfInBounds_toArray, List.set_cons_zero, List.set_cons_succ]
          have hM2 := mk_grewR hM1 hgr2 (fun g e => (hA.lt g e).1)
          simp only [Nat.zero_add, List.nil_append] at hown2
          obtain ⟨A, C, rfl, hca, hcb⟩ := ownsRow_sliceR2 hown2
          clear hA hgr2 hat2 hca hcb
          refine wpAny_take (i := 8) (v := _) rfl (by kernel_rfl) (by kernel_rfl) (by kernel_rfl) (fun _ _ _ h => h) (Or.inl ⟨by rfl, fun w => by go_simp; try with_reducible rfl⟩) ?_
          try simp only [Act.put, List.getElem_toArray, List.getElem_cons_succ, List.getElem_cons_zero, List.setIfInBounds_toArray, List.set_cons_zero, List.set_cons_succ]
          refine wpAny_ready (rs := [9]) (by kernel_rfl) (by simp) ?_
          refine (AllReady.cons rfl (fun K hK => ?_) AllReady.nil)
          have q0 := HR0.out _ hM2
          have q1 := HR1.out _ hM2
          have q2 := HR2.out _ hM2
          have fq := HFR.out _ hM2
          go_simp
          refine hK _ _ ?_
          clear hK K
          try simp only [Act.put, List.getElem_toArray, List.getElem_cons_succ, List.getElem_cons_zero, List.setIfInBounds_toArray, List.set_cons_zero, List.set_cons_succ]
          refine wpAny_done (by kernel_rfl) ?_ _
          refine ‹∀ (a : Act) (w : World), _ → _› _ _ ?_
          have zz2 := hM2.size
          have M2 := M0.trans hM2
          have r0 := HR0.out _ hM2
          have r1 := HR1.out _ hM2
          have r2 := HR2.out _ hM2
          clear HX0 HX1 HX2 HR0 HR1 HR2 HFR HH
          go_wp2_with fail
          replace r0 := World.cell?_setCell_same _ _ (.int .i64 x0) r0
          replace r1 := cell_set r1 ⟨w.heap.size + 1, 0, none⟩ (.int .i64 x0) (.inr (by simp))
          replace r2 := cell_set r2 ⟨w.heap.size + 1, 0, none⟩ (.int .i64 x0) (.inr (by simp))
          replace hown2 := own_put hown2 ⟨w.heap.size + 1, 0, none⟩ (.int .i64 x0) (show w.heap.size + 1 < _ from by omega)
          replace M2 := M2.put ⟨w.heap.size + 1, 0, none⟩ (.int .i64 x0) (show w.heap.size ≤ w.heap.size + 1 from by omega)
          replace r0 := cell_set r0 ⟨w.heap.size + 1, 1, none⟩ (.int .i64 x1) (.inr (by simp))
          replace r1 := World.cell?_setCell_same _ _ (.int .i64 x1) r1
          replace r2 := cell_set r2 ⟨w.heap.size + 1, 1, none⟩ (.int .i64 x1) (.inr (by simp))
          replace hown2 := own_put hown2 ⟨w.heap.size + 1, 1, none⟩ (.int .i64 x1) (show w.heap.size + 1 < _ from by omega)
          replace M2 := M2.put ⟨w.heap.size + 1, 1, none⟩ (.int .i64 x1) (show w.heap.size ≤ w.heap.size + 1 from by omega)
          replace r0 := cell_set r0 ⟨w.heap.size + 1, 2, none⟩ (.slice A n C) (.inr (by simp))
          replace r1 := cell_set r1 ⟨w.heap.size + 1, 2, none⟩ (.slice A n C) (.inr (by simp))
          replace r2 := World.cell?_setCell_same _ _ (.slice A n C) r2
          replace hown2 := own_put hown2 ⟨w.heap.size + 1, 2, none⟩ (.slice A n C) (show w.heap.size + 1 < _ from by omega)
          replace M2 := M2.put ⟨w.heap.size + 1, 2, none⟩ (.slice A n C) (show w.heap.size ≤ w.heap.size + 1 from by omega)
          generalize (((u2.setCell ⟨w.heap.size + 1, 0, none⟩ (.int .i64 x0)).setCell ⟨w.heap.size + 1, 1, none⟩ (.int .i64 x1)).setCell ⟨w.heap.size + 1, 2, none⟩ (.slice A n C)) = WF at *
          exact bodyPost_ret (v := .agg #[.int .i64 x0, .int .i64 x1, .slice A n C]) (by simp [results, Try.results38, go_sem, r0, r1, r2]) rfl ⟨_, _, _, rfl, own_lowR hown2 (by omega), M2⟩
        · refine step_appR (nc := 5) (cell := THop.cell) (by decide) oneHopC (by rfl) (.tmp 7) (.tmp 9) 80 (by rfl) WW.heap.size 115 i0 _ Try.underlying80 hi0 hz0 rfl hz1 (by rw [hz2]; decide) _ [] 0 (by rfl) hA a n c zs (by rfl) HC.out ((HH.out _ hM1).mono (Nat.le_trans hB (M0.trans hM1).size)) (by omega) hM1.size ?_
          intro v2 u2 hown2 hgr2 hat2
          refine hK _ _ ?_
          clear hK K
          try simp only [Act.put, List.getElem_toArray, List.getElem_cons_succ, List.getElem_cons_zero, List.setIfInBounds_toArray, List.set_cons_zero, List.set_cons_succ]
          have hM2 := mk_grewR hM1 hgr2 (fun g e => (hA.lt g e).1)
          simp only [Nat.zero_add, List.nil_append] at hown2
          obtain ⟨A, C, rfl, hca, hcb⟩ := ownsRow_sliceR2 hown2
          clear hA hgr2 hat2 hca hcb
          refine wpAny_ready (rs := [3]) (by kernel_rfl) (by simp) ?_
          refine (AllReady.cons rfl (fun K hK => ?_) AllReady.nil)
          have d0 := HX1.out _ hM2
          go_simp
          refine hK _ _ ?_
          clear hK K
          try simp only [Act.put, List.getElem_toArray, List.getElem_cons_succ, List.getElem_cons_zero, List.setIfInBounds_toArray, List.set_cons_zero, List.set_cons_succ]
          clear d0
          refine wpAny_take (i := 8) (v := _) rfl (by kernel_rfl) (by kernel_rfl) (by kernel_rfl) (fun _ _ _ h => h) (Or.inl ⟨by rfl, fun w => by go_simp; try with_reducible rfl⟩) ?_
          try simp only [Act.put, List.getElem_toArray, List.getElem_cons_succ, List.getElem_cons_zero, List.setIfInBounds_toArray, List.set_cons_zero, List.set_cons_succ]
          refine wpAny_ready (rs := [9]) (by kernel_rfl) (by simp) ?_
          refine (AllReady.cons rfl (fun K hK => ?_) AllReady.nil)
          have q0 := HR0.out _ hM2
          have q1 := HR1.out _ hM2
          have q2 := HR2.out _ hM2
          have fq := HFR.out _ hM2
          go_simp
          refine hK _ _ ?_
          clear hK K
          try simp only [Act.put, List.getElem_toArray, List.getElem_cons_succ, List.getElem_cons_zero, List.setIfInBounds_toArray, List.set_cons_zero, List.set_cons_succ]
          refine wpAny_done (by kernel_rfl) ?_ _
          refine ‹∀ (a : Act) (w : World), _ → _› _ _ ?_
          have zz2 := hM2.size
          have M2 := M0.trans hM2
          have r0 := HR0.out _ hM2
          have r1 := HR1.out _ hM2
          have r2 := HR2.out _ hM2
          clear HX0 HX1 HX2 HR0 HR1 HR2 HFR HH
          go_wp2_with fail
          replace r0 := World.cell?_setCell_same _ _ (.int .i64 x0) r0
          replace r1 := cell_set r1 ⟨w.heap.size + 1, 0, none⟩ (.int .i64 x0) (.inr (by simp))
          replace r2 := cell_set r2 ⟨w.heap.size + 1, 0, none⟩ (.int .i64 x0) (.inr (by simp))
          replace hown2 := own_put hown2 ⟨w.heap.size + 1, 0, none⟩ (.int .i64 x0) (show w.heap.size + 1 < _ from by omega)
          replace M2 := M2.put ⟨w.heap.size + 1, 0, none⟩ (.int .i64 x0) (show w.heap.size ≤ w.heap.size + 1 from by omega)
          replace r0 := cell_set r0 ⟨w.heap.size + 1, 1, none⟩ (.int .i64 x1) (.inr (by simp))
          replace r1 := World.cell?_setCell_same _ _ (.int .i64 x1) r1
          replace r2 := cell_set r2 ⟨w.heap.size + 1, 1, none⟩ (.int .i64 x1) (.inr (by simp))
          replace hown2 := own_put hown2 ⟨w.heap.size + 1, 1, none⟩ (.int .i64 x1) (show w.heap.size + 1 < _ from by omega)
          replace M2 := M2.put ⟨w.heap.size + 1, 1, none⟩ (.int .i64 x1) (show w.heap.size ≤ w.heap.size + 1 from by omega)
          replace r0 := cell_set r0 ⟨w.heap.size + 1, 2, none⟩ (.slice A n C) (.inr (by simp))
          replace r1 := cell_set r1 ⟨w.heap.size + 1, 2, none⟩ (.slice A n C) (.inr (by simp))
          replace r2 := World.cell?_setCell_same _ _ (.slice A n C) r2
          replace hown2 := own_put hown2 ⟨w.heap.size + 1, 2, none⟩ (.slice A n C) (show w.heap.size + 1 < _ from by omega)
          replace M2 := M2.put ⟨w.heap.size + 1, 2, none⟩ (.slice A n C) (show w.heap.size ≤ w.heap.size + 1 from by omega)
          generalize (((u2.setCell ⟨w.heap.size + 1, 0, none⟩ (.int .i64 x0)).setCell ⟨w.heap.size + 1, 1, none⟩ (.int .i64 x1)).setCell ⟨w.heap.size + 1, 2, none⟩ (.slice A n C)) = WF at *
          exact bodyPost_ret (v := .agg #[.int .i64 x0, .int .i64 x1, .slice A n C]) (by simp [results, Try.results38, go_sem, r0, r1, r2]) rfl ⟨_, _, _, rfl, own_lowR hown2 (by omega), M2⟩
    · have d0 := HX1.out _ hM0
      go_simp
      refine hK _ _ ?_
      clear hK K
      try simp only [Act.put, List.getElem_toArray, List.getElem_cons_succ, List.getElem_cons_zero, List.setIfInBounds_toArray, List.set_cons_zero, List.set_cons_succ]
      clear d0
      refine wpAny_ready (rs := [1, 4]) (by kernel_rfl) (by simp) ?_
      refine (AllReady.cons rfl (fun K hK => ?_) (AllReady.cons rfl (fun K hK => ?_) AllReady.nil))
      · have d0 := HX0.out _ hM0
        go_simp
        refine hK _ _ ?_
        clear hK K
        try simp only [Act.put, List.getElem_toArray, List.getElem_cons_succ, List.getElem_cons_zero, List.setIfInBounds_toArray, List.set_cons_zero, List.set_cons_succ]
        clear d0
        refine wpAny_ready (rs := [4]) (by kernel_rfl) (by simp) ?_
        refine (AllReady.cons rfl (fun K hK => ?_) AllReady.nil)
        go_simp
        refine hK _ _ ?_
        clear hK K
        try simp only [Act.put, List.getElem_toArray, List.getElem_cons_succ, List.getElem_cons_zero, List.setIfInBounds_toArray, List.set_cons_zero, List.set_cons_succ]
        have hA := own_emptyR u0 115 5
        have hM1 : Mk0 WW (u0.alloc (.cells #[] 115)) := hM0.new _
        replace hA := own_lowR hA hM0.size
        generalize u0.alloc (.cells #[] 115) = u1 at *
        refine wpAny_ready (rs := [7]) (by kernel_rfl) (by simp) ?_
        refine (AllReady.cons rfl (fun K hK => ?_) AllReady.nil)
        refine step_appR (nc := 5) (cell := THop.cell) (by decide) oneHopC (by rfl) (.tmp 7) (.tmp 9) 80 (by rfl) WW.heap.size 115 i0 _ Try.underlying80 hi0 hz0 rfl hz1 (by rw [hz2]; decide) _ [] 0 (by rfl) hA a n c zs (by rfl) HC.out ((HH.out _ hM1).mono (Nat.le_trans hB (M0.trans hM1).size)) (by omega) hM1.size ?_
        intro v2 u2 hown2 hgr2 hat2
        refine hK _ _ ?_
        clear hK K
        try simp only [Act.put, List.getElem_toArray, List.getElem_cons_succ, List.getElem_cons_zero, List.setIfInBounds_toArray, List.set_cons_zero, List.set_cons_succ]
        have hM2 := mk_grewR hM1 hgr2 (fun g e => (hA.lt g e).1)
        simp only [Nat.zero_add, List.nil_append] at hown2
        obtain ⟨A, C, rfl, hca, hcb⟩ := ownsRow_sliceR2 hown2
        clear hA hgr2 hat2 hca hcb
        refine wpAny_take (i := 8) (v := _) rfl (by kernel_rfl) (by kernel_rfl) (by kernel_rfl) (fun _ _ _ h => h) (Or.inl ⟨by rfl, fun w => by go_simp; try with_reducible rfl⟩) ?_
        try simp only [Act.put, List.getElem_toArray, List.getElem_cons_succ, List.getElem_cons_zero, List.setIfInBounds_toArray, List.set_cons_zero, List.set_cons_succ]
        refine wpAny_ready (rs := [9]) (by kernel_rfl) (by simp) ?_
        refine (AllReady.cons rfl (fun K hK => ?_) AllReady.nil)
        have q0 := HR0.out _ hM2
        have q1 := HR1.out _ hM2
        have q2 := HR2.out _ hM2
        have fq := HFR.out _ hM2
        go_simp
        refine hK _ _ ?_
        clear hK K
        try simp only [Act.put, List.getElem_toArray, List.getElem_cons_succ, List.getElem_cons_zero, List.setIfInBounds_toArray, List.set_cons_zero, List.set_cons_succ]
        refine wpAny_done (by kernel_rfl) ?_ _
        refine ‹∀ (a : Act) (w : World), _ → _› _ _ ?_
        have zz2 := hM2.size
        have M2 := M0.trans hM2
        have r0 := HR0.out _ hM2
        have r1 := HR1.out _ hM2
        have r2 := HR2.out _ hM2
        clear HX0 HX1 HX2 HR0 HR1 HR2 HFR HH
        go_wp2_with fail
        replace r0 := World.cell?_setCell_same _ _ (.int .i64 x0) r0
        replace r1 := cell_set r1 ⟨w.heap.size + 1, 0, none⟩ (.int .i64 x0) (.inr (by simp))
        replace r2 := cell_set r2 ⟨w.heap.size + 1, 0, none⟩ (.int .i64 x0) (.inr (by simp))
        replace hown2 := own_put hown2 ⟨w.heap.size + 1, 0, none⟩ (.int .i64 x0) (show w.heap.size + 1 < _ from by omega)
        replace M2 := M2.put ⟨w.heap.size + 1, 0, none⟩ (.int .i64 x0) (show w.heap.size ≤ w.heap.size + 1 from by omega)
        replace r0 := cell_set r0 ⟨w.heap.size + 1, 1, none⟩ (.int .i64 x1) (.inr (by simp))
        replace r1 := World.cell?_setCell_same _ _ (.int .i64 x1) r1
        replace r2 := cell_set r2 ⟨w.heap.size + 1, 1, none⟩ (.int .i64 x1) (.inr (by simp))
        replace hown2 := own_put hown2 ⟨w.heap.size + 1, 1, none⟩ (.int .i64 x1) (show w.heap.size + 1 < _ from by omega)
        replace M2 := M2.put ⟨w.heap.size + 1, 1, none⟩ (.int .i64 x1) (show w.heap.size ≤ w.heap.size + 1 from by omega)
        replace r0 := cell_set r0 ⟨w.heap.size + 1, 2, none⟩ (.slice A n C) (.inr (by simp))
        replace r1 := cell_set r1 ⟨w.heap.size + 1, 2, none⟩ (.slice A n C) (.inr (by simp))
        replace r2 := World.cell?_setCell_same _ _ (.slice A n C) r2
        replace hown2 := own_put hown2 ⟨w.heap.size + 1, 2, none⟩ (.slice A n C) (show w.heap.size + 1 < _ from by omega)
        replace M2 := M2.put ⟨w.heap.size + 1, 2, none⟩ (.slice A n C) (show w.heap.size ≤ w.heap.size + 1 from by omega)
        generalize (((u2.setCell ⟨w.heap.size + 1, 0, none⟩ (.int .i64 x0)).setCell ⟨w.heap.size + 1, 1, none⟩ (.int .i64 x1)).setCell ⟨w.heap.size + 1, 2, none⟩ (.slice A n C)) = WF at *
        exact bodyPost_ret (v := .agg #[.int .i64 x0, .int .i64 x1, .slice A n C]) (by simp [results, Try.results38, go_sem, r0, r1, r2]) rfl ⟨_, _, _, rfl, own_lowR hown2 (by omega), M2⟩
      · go_simp
        refine hK _ _ ?_
        clear hK K
        try simp only [Act.put, List.getElem_toArray, List.getElem_cons_succ, List.getElem_cons_zero, List.setIfInBounds_toArray, List.set_cons_zero, List.set_cons_succ]
        have hA := own_emptyR u0 115 5
        have hM1 : Mk0 WW (u0.alloc (.cells #[] 115)) := hM0.new _
        replace hA := own_lowR hA hM0.size
        generalize u0.alloc (.cells #[] 115) = u1 at *
        refine wpAny_ready (rs := [1, 7]) (by kernel_rfl) (by simp) ?_
        refine (AllReady.cons rfl (fun K hK => ?_) (AllReady.cons rfl (fun K hK => ?_) AllReady.nil))
        · have d0 := HX0.out _ hM1
          go_simp
          refine hK _ _ ?_
          clear hK K
          try simp only [Act.put, List.getElem_toArray, List.getElem_cons_succ, List.getElem_cons_zero, List.setIfInBounds_toArray, List.set_cons_zero, List.set_cons_succ]
          clear d0
          refine wpAny_ready (rs := [7]) (by kernel_rfl) (by simp) ?_
          refine (AllReady.cons rfl (fun K hK => ?_) AllReady.nil)
          refine step_appR (nc := 5) (cell := THop.cell) (by decide) oneHopC (by rfl) (.tmp 7) (.tmp 9) 80 (by rfl) WW.heap.size 115 i0 _ Try.underlying80 hi0 hz0 rfl hz1 (by rw [hz2]; decide) _ [] 0 (by rfl) hA a n c zs (by rfl) HC.out ((HH.out _ hM1).mono (Nat.le_trans hB (M0.trans hM1).size)) (by omega) hM1.size ?_
          intro v2 u2 hown2 hgr2 hat2
          refine hK _ _ ?_
          clear hK K
          try simp only [Act.put, List.getElem_toArray, List.getElem_cons_succ, List.getElem_cons_zero, List.setIfInBounds_toArray, List.set_cons_zero, List.set_cons_succ]
          have hM2 := mk_grewR hM1 hgr2 (fun g e => (hA.lt g e).1)
          simp only [Nat.zero_add, List.nil_append] at hown2
          obtain ⟨A, C, rfl, hca, hcb⟩ := ownsRow_sliceR2 hown2
          clear hA hgr2 hat2 hca hcb
          refine wpAny_take (i := 8) (v := _) rfl (by kernel_rfl) (by kernel_rfl) (by kernel_rfl) (fun _ _ _ h => h) (Or.inl ⟨by rfl, fun w => by go_simp; try with_reducible rfl⟩) ?_
          try simp only [Act.put, List.getElem_toArray, List.getElem_cons_succ, List.getElem_cons_zero, List.setIfInBounds_toArray, List.set_cons_zero, List.set_cons_succ]
          refine wpAny_ready (rs := [9]) (by kernel_rfl) (by simp) ?_
          refine (AllReady.cons rfl (fun K hK => ?_) AllReady.nil)
          have q0 := HR0.out _ hM2
          have q1 := HR1.out _ hM2
          have q2 := HR2.out _ hM2
          have fq := HFR.out _ hM2
          go_simp
          refine hK _ _ ?_
          clear hK K
          try simp only [Act.put, List.getElem_toArray, List.getElem_cons_succ, List.getElem_cons_zero, List.setIfInBounds_toArray, List.set_cons_zero, List.set_cons_succ]
          refine wpAny_done (by kernel_rfl) ?_ _
          refine ‹∀ (a : Act) (w : World), _ → _› _ _ ?_
          have zz2 := hM2.size
          have M2 := M0.trans hM2
          have r0 := HR0.out _ hM2
          have r1 := HR1.out _ hM2
          have r2 := HR2.out _ hM2
          clear HX0 HX1 HX2 HR0 HR1 HR2 HFR HH
          go_wp2_with fail
          replace r0 := World.cell?_setCell_same _ _ (.int .i64 x0) r0
          replace r1 := cell_set r1 ⟨w.heap.size + 1, 0, none⟩ (.int .i64 x0) (.inr (by simp))
          replace r2 := cell_set r2 ⟨w.heap.size + 1, 0, none⟩ (.int .i64 x0) (.inr (by simp))
          replace hown2 := own_put hown2 ⟨w.heap.size + 1, 0, none⟩ (.int .i64 x0) (show w.heap.size + 1 < _ from by omega)
          replace M2 := M2.put ⟨w.heap.size + 1, 0, none⟩ (.int .i64 x0) (show w.heap.size ≤ w.heap.size + 1 from by omega)
          replace r0 := cell_set r0 ⟨w.heap.size + 1, 1, none⟩ (.int .i64 x1) (.inr (by simp))
          replace r1 := World.cell?_setCell_same _ _ (.int .i64 x1) r1
          replace r2 := cell_set r2 ⟨w.heap.size + 1, 1, none⟩ (.int .i64 x1) (.inr (by simp))
          replace hown2 := own_put hown2 ⟨w.heap.size + 1, 1, none⟩ (.int .i64 x1) (show w.heap.size + 1 < _ from by omega)
          replace M2 := M2.put ⟨w.heap.size + 1, 1, none⟩ (.int .i64 x1) (show w.heap.size ≤ w.heap.size + 1 from by omega)
          replace r0 := cell_set r0 ⟨w.heap.size + 1, 2, none⟩ (.slice A n C) (.inr (by simp))
          replace r1 := cell_set r1 ⟨w.heap.size + 1, 2, none⟩ (.slice A n C) (.inr (by simp))
          replace r2 := World.cell?_setCell_same _ _ (.slice A n C) r2
          replace hown2 := own_put hown2 ⟨w.heap.size + 1, 2, none⟩ (.slice A n C) (show w.heap.size + 1 < _ from by omega)
          replace M2 := M2.put ⟨w.heap.size + 1, 2, none⟩ (.slice A n C) (show w.heap.size ≤ w.heap.size + 1 from by omega)
          generalize (((u2.setCell ⟨w.heap.size + 1, 0, none⟩ (.int .i64 x0)).setCell ⟨w.heap.size + 1, 1, none⟩ (.int .i64 x1)).setCell ⟨w.heap.size + 1, 2, none⟩ (.slice A n C)) = WF at *
          exact bodyPost_ret (v := .agg #[.int .i64 x0, .int .i64 x1, .slice A n C]) (by simp [results, Try.results38, go_sem, r0, r1, r2]) rfl ⟨_, _, _, rfl, own_lowR hown2 (by omega), M2⟩
        · refine step_appR (nc := 5) (cell := THop.cell) (by decide) oneHopC (by rfl) (.tmp 7) (.tmp 9) 80 (by rfl) WW.heap.size 115 i0 _ Try.underlying80 hi0 hz0 rfl hz1 (by rw [hz2]; decide) _ [] 0 (by rfl) hA a n c zs (by rfl) HC.out ((HH.out _ hM1).mono (Nat.le_trans hB (M0.trans hM1).size)) (by omega) hM1.size ?_
          intro v2 u2 hown2 hgr2 hat2
          refine hK _ _ ?_
          clear hK K
          try simp only [Act.put, List.getElem_toArray, List.getElem_cons_succ, List.getElem_cons_zero, List.setIfInBounds_toArray, List.set_cons_zero, List.set_cons_succ]
          have hM2 := mk_grewR hM1 hgr2 (fun g e => (hA.lt g e).1)
          simp only [Nat.zero_add, List.nil_append] at hown2
          obtain ⟨A, C, rfl, hca, hcb⟩ := ownsRow_sliceR2 hown2
          clear hA hgr2 hat2 hca hcb
          refine wpAny_ready (rs := [1]) (by kernel_rfl) (by simp) ?_
          refine (AllReady.cons rfl (fun K hK => ?_) AllReady.nil)
          have d0 := HX0.out _ hM2
          go_simp
          refine hK _ _ ?_
          clear hK K
          try simp only [Act.put, List.getElem_toArray, List.getElem_cons_succ, List.getElem_cons_zero, List.setIfInBounds_toArray, List.set_cons_zero, List.set_cons_succ]
          clear d0
          refine wpAny_take (i := 8) (v := _) rfl (by kernel_rfl) (by kernel_rfl) (by kernel_rfl) (fun _ _ _ h => h) (Or.inl ⟨by rfl, fun w => by go_simp; try with_reducible rfl⟩) ?_
          try simp only [Act.put, List.getElem_toArray, List.getElem_cons_succ, List.getElem_cons_zero, List.setIfInBounds_toArray, List.set_cons_zero, List.set_cons_succ]
          refine wpAny_ready (rs := [9]) (by kernel_rfl) (by simp) ?_
          refine (AllReady.cons rfl (fun K hK => ?_) AllReady.nil)
          have q0 := HR0.out _ hM2
          have q1 := HR1.out _ hM2
          have q2 := HR2.out _ hM2
          have fq := HFR.out _ hM2
          go_simp
          refine hK _ _ ?_
          clear hK K
          try simp only [Act.put, List.getElem_toArray, List.getElem_cons_succ, List.getElem_cons_zero, List.setIfInBounds_toArray, List.set_cons_zero, List.set_cons_succ]
          refine wpAny_done (by kernel_rfl) ?_ _
          refine ‹∀ (a : Act) (w : World), _ → _› _ _ ?_
          have zz2 := hM2.size
          have M2 := M0.trans hM2
          have r0 := HR0.out _ hM2
          have r1 := HR1.out _ hM2
          have r2 := HR2.out _ hM2
          clear HX0 HX1 HX2 HR0 HR1 HR2 HFR HH
          go_wp2_with fail
          replace r0 := World.cell?_setCell_same _ _ (.int .i64 x0) r0
          replace r1 := cell_set r1 ⟨w.heap.size + 1, 0, none⟩ (.int .i64 x0) (.inr (by simp))
          replace r2 := cell_set r2 ⟨w.heap.size + 1, 0, none⟩ (.int .i64 x0) (.inr (by simp))
          replace hown2 := own_put hown2 ⟨w.heap.size + 1, 0, none⟩ (.int .i64 x0) (show w.heap.size + 1 < _ from by omega)
          replace M2 := M2.put ⟨w.heap.size + 1, 0, none⟩ (.int .i64 x0) (show w.heap.size ≤ w.heap.size + 1 from by omega)
          replace r0 := cell_set r0 ⟨w.heap.size + 1, 1, none⟩ (.int .i64 x1) (.inr (by simp))
          replace r1 := World.cell?_setCell_same _ _ (.int .i64 x1) r1
          replace r2 := cell_set r2 ⟨w.heap.size + 1, 1, none⟩ (.int .i64 x1) (.inr (by simp))
          replace hown2 := own_put hown2 ⟨w.heap.size + 1, 1, none⟩ (.int .i64 x1) (show w.heap.size + 1 < _ from by omega)
          replace M2 := M2.put ⟨w.heap.size + 1, 1, none⟩ (.int .i64 x1) (show w.heap.size ≤ w.heap.size + 1 from by omega)
          replace r0 := cell_set r0 ⟨w.heap.size + 1, 2, none⟩ (.slice A n C) (.inr (by simp))
          replace r1 := cell_set r1 ⟨w.heap.size + 1, 2, none⟩ (.slice A n C) (.inr (by simp))
          replace r2 := World.cell?_setCell_same _ _ (.slice A n C) r2
          replace hown2 := own_put hown2 ⟨w.heap.size + 1, 2, none⟩ (.slice A n C) (show w.heap.size + 1 < _ from by omega)
          replace M2 := M2.put ⟨w.heap.size + 1, 2, none⟩ (.slice A n C) (show w.heap.size ≤ w.heap.size + 1 from by omega)
          generalize (((u2.setCell ⟨w.heap.size + 1, 0, none⟩ (.int .i64 x0)).setCell ⟨w.heap.size + 1, 1, none⟩ (.int .i64 x1)).setCell ⟨w.heap.size + 1, 2, none⟩ (.slice A n C)) = WF at *
          exact bodyPost_ret (v := .agg #[.int .i64 x0, .int .i64 x1, .slice A n C]) (by simp [results, Try.results38, go_sem, r0, r1, r2]) rfl ⟨_, _, _, rfl, own_lowR hown2 (by omega), M2⟩
    · go_simp
      refine hK _ _ ?_
      clear hK K
      try simp only [Act.put, List.getElem_toArray, List.getElem_cons_succ, List.getElem_cons_zero, List.setIfInBounds_toArray, List.set_cons_zero, List.set_cons_succ]
      have hA := own_emptyR u0 115 5
      have hM1 : Mk0 WW (u0.alloc (.cells #[] 115)) := hM0.new _
      replace hA := own_lowR hA hM0.size
      generalize u0.alloc (.cells #[] 115) = u1 at *
      refine wpAny_ready (rs := [1, 3, 7]) (by kernel_rfl) (by simp) ?_
      refine (AllReady.cons rfl (fun K hK => ?_) (AllReady.cons rfl (fun K hK => ?_) (AllReady.cons rfl (fun K hK => ?_) AllReady.nil)))
      · have d0 := HX0.out _ hM1
        go_simp
        refine hK _ _ ?_
        clear hK K
        try simp only [Act.put, List.getElem_toArray, List.getElem_cons_succ, List.getElem_cons_zero, List.setIfInBounds_toArray, List.set_cons_zero, List.set_cons_succ]
        clear d0
        refine wpAny_ready (rs := [3, 7]) (by kernel_rfl) (by simp) ?_
        refine (AllReady.cons rfl (fun K hK => ?_) (AllReady.cons rfl (fun K hK => ?_) AllReady.nil))
        · have d0 := HX1.out _ hM1
          go_simp
          refine hK _ _ ?_
          clear hK K
          try simp only [Act.put, List.getElem_toArray, List.getElem_cons_succ, List.getElem_cons_zero, List.setIfInBounds_toArray, List.set_cons_zero, List.set_cons_succ]
          clear d0
          refine wpAny_ready (rs := [7]) (by kernel_rfl) (by simp) ?_
          refine (AllReady.cons rfl (fun K hK => ?_) AllReady.nil)
          refine step_appR (nc := 5) (cell := THop.cell) (by decide) oneHopC (by rfl) (.tmp 7) (.tmp 9) 80 (by rfl) WW.heap.size 115 i0 _ Try.underlying80 hi0 hz0 rfl hz1 (by rw [hz2]; decide) _ [] 0 (by rfl) hA a n c zs (by rfl) HC.out ((HH.out _ hM1).mono (Nat.le_trans hB (M0.trans hM1).size)) (by omega) hM1.size ?_
          intro v2 u2 hown2 hgr2 hat2
          refine hK _ _ ?_
          clear hK K
          try simp only [Act.put, List.getElem_toArray, List.getElem_cons_succ, List.getElem_cons_zero, List.setIfInBounds_toArray, List.set_cons_zero, List.set_cons_succ]
          have hM2 := mk_grewR hM1 hgr2 (fun g e => (hA.lt g e).1)
          simp only [Nat.zero_add, List.nil_append] at hown2
          obtain ⟨A, C, rfl, hca, hcb⟩ := ownsRow_sliceR2 hown2
          clear hA hgr2 hat2 hca hcb
          refine wpAny_take (i := 8) (v := _) rfl (by kernel_rfl) (by kernel_rfl) (by kernel_rfl) (fun _ _ _ h => h) (Or.inl ⟨by rfl, fun w => by go_simp; try with_reducible rfl⟩) ?_
          try simp only [Act.put, List.getElem_toArray, List.getElem_cons_succ, List.getElem_cons_zero, List.setIfInBounds_toArray, List.set_cons_zero, List.set_cons_succ]
          refine wpAny_ready (rs := [9]) (by kernel_rfl) (by simp) ?_
          refine (AllReady.cons rfl (fun K hK => ?_) AllReady.nil)
          have q0 := HR0.out _ hM2
          have q1 := HR1.out _ hM2
          have q2 := HR2.out _ hM2
          have fq := HFR.out _ hM2
          go_simp
          refine hK _ _ ?_
          clear hK K
          try simp only [Act.put, List.getElem_toArray, List.getElem_cons_succ, List.getElem_cons_zero, List.setIfInBounds_toArray, List.set_cons_zero, List.set_cons_succ]
          refine wpAny_done (by kernel_rfl) ?_ _
          refine ‹∀ (a : Act) (w : World), _ → _› _ _ ?_
          have zz2 := hM2.size
          have M2 := M0.trans hM2
          have r0 := HR0.out _ hM2
          have r1 := HR1.out _ hM2
          have r2 := HR2.out _ hM2
          clear HX0 HX1 HX2 HR0 HR1 HR2 HFR HH
          go_wp2_with fail
          replace r0 := World.cell?_setCell_same _ _ (.int .i64 x0) r0
          replace r1 := cell_set r1 ⟨w.heap.size + 1, 0, none⟩ (.int .i64 x0) (.inr (by simp))
          replace r2 := cell_set r2 ⟨w.heap.size + 1, 0, none⟩ (.int .i64 x0) (.inr (by simp))
          replace hown2 := own_put hown2 ⟨w.heap.size + 1, 0, none⟩ (.int .i64 x0) (show w.heap.size + 1 < _ from by omega)
          replace M2 := M2.put ⟨w.heap.size + 1, 0, none⟩ (.int .i64 x0) (show w.heap.size ≤ w.heap.size + 1 from by omega)
          replace r0 := cell_set r0 ⟨w.heap.size + 1, 1, none⟩ (.int .i64 x1) (.inr (by simp))
          replace r1 := World.cell?_setCell_same _ _ (.int .i64 x1) r1
          replace r2 := cell_set r2 ⟨w.heap.size + 1, 1, none⟩ (.int .i64 x1) (.inr (by simp))
          replace hown2 := own_put hown2 ⟨w.heap.size + 1, 1, none⟩ (.int .i64 x1) (show w.heap.size + 1 < _ from by omega)
          replace M2 := M2.put ⟨w.heap.size + 1, 1, none⟩ (.int .i64 x1) (show w.heap.size ≤ w.heap.size + 1 from by omega)
          replace r0 := cell_set r0 ⟨w.heap.size + 1, 2, none⟩ (.slice A n C) (.inr (by simp))
          replace r1 := cell_set r1 ⟨w.heap.size + 1, 2, none⟩ (.slice A n C) (.inr (by simp))
          replace r2 := World.cell?_setCell_same _ _ (.slice A n C) r2
          replace hown2 := own_put hown2 ⟨w.heap.size + 1, 2, none⟩ (.slice A n C) (show w.heap.size + 1 < _ from by omega)
          replace M2 := M2.put ⟨w.heap.size + 1, 2, none⟩ (.slice A n C) (show w.heap.size ≤ w.heap.size + 1 from by omega)
          generalize (((u2.setCell ⟨w.heap.size + 1, 0, none⟩ (.int .i64 x0)).setCell ⟨w.heap.size + 1, 1, none⟩ (.int .i64 x1)).setCell ⟨w.heap.size + 1, 2, none⟩ (.slice A n C)) = WF at *
          exact bodyPost_ret (v := .agg #[.int .i64 x0, .int .i64 x1, .slice A n C]) (by simp [results, Try.results38, go_sem, r0, r1, r2]) rfl ⟨_, _, _, rfl, own_lowR hown2 (by omega), M2⟩
        · refine step_appR (nc := 5) (cell := THop.cell) (by decide) oneHopC (by rfl) (.tmp 7) (.tmp 9) 80 (by rfl) WW.heap.size 115 i0 _ Try.underlying80 hi0 hz0 rfl hz1 (by rw [hz2]; decide) _ [] 0 (by rfl) hA a n c zs (by rfl) HC.out ((HH.out _ hM1).mono (Nat.le_trans hB (M0.trans hM1).size)) (by omega) hM1.size ?_
          intro v2 u2 hown2 hgr2 hat2
          refine hK _ _ ?_
          clear hK K
          try simp only [Act.put, List.getElem_toArray, List.getElem_cons_succ, List.getElem_cons_zero, List.setIfInBounds_toArray, List.set_cons_zero, List.set_cons_succ]
          have hM2 := mk_grewR hM1 hgr2 (fun g e => (hA.lt g e).1)
          simp only [Nat.zero_add, List.nil_append] at hown2
          obtain ⟨A, C, rfl, hca, hcb⟩ := ownsRow_sliceR2 hown2
          clear hA hgr2 hat2 hca hcb
          refine wpAny_ready (rs := [3]) (by kernel_rfl) (by simp) ?_
          refine (AllReady.cons rfl (fun K hK => ?_) AllReady.nil)
          have d0 := HX1.out _ hM2
          go_simp
          refine hK _ _ ?_
          clear hK K
          try simp only [Act.put, List.getElem_toArray, List.getElem_cons_succ, List.getElem_cons_zero, List.setIfInBounds_toArray, List.set_cons_zero, List.set_cons_succ]
          clear d0
          refine wpAny_take (i := 8) (v := _) rfl (by kernel_rfl) (by kernel_rfl) (by kernel_rfl) (fun _ _ _ h => h) (Or.inl ⟨by rfl, fun w => by go_simp; try with_reducible rfl⟩) ?_
          try simp only [Act.put, List.getElem_toArray, List.getElem_cons_succ, List.getElem_cons_zero, List.setIfInBounds_toArray, List.set_cons_zero, List.set_cons_succ]
          refine wpAny_ready (rs := [9]) (by kernel_rfl) (by simp) ?_
          refine (AllReady.cons rfl (fun K hK => ?_) AllReady.nil)
          have q0 := HR0.out _ hM2
          have q1 := HR1.out _ hM2
          have q2 := HR2.out _ hM2
          have fq := HFR.out _ hM2
          go_simp
          refine hK _ _ ?_
          clear hK K
          try simp only [Act.put, List.getElem_toArray, List.getElem_cons_succ, List.getElem_cons_zero, List.setIfInBounds_toArray, List.set_cons_zero, List.set_cons_succ]
          refine wpAny_done (by kernel_rfl) ?_ _
          refine ‹∀ (a : Act) (w : World), _ → _› _ _ ?_
          have zz2 := hM2.size
          have M2 := M0.trans hM2
          have r0 := HR0.out _ hM2
          have r1 := HR1.out _ hM2
          have r2 := HR2.out _ hM2
          clear HX0 HX1 HX2 HR0 HR1 HR2 HFR HH
          go_wp2_with fail
          replace r0 := World.cell?_setCell_same _ _ (.int .i64 x0) r0
          replace r1 := cell_set r1 ⟨w.heap.size + 1, 0, none⟩ (.int .i64 x0) (.inr (by simp))
          replace r2 := cell_set r2 ⟨w.heap.size + 1, 0, none⟩ (.int .i64 x0) (.inr (by simp))
          replace hown2 := own_put hown2 ⟨w.heap.size + 1, 0, none⟩ (.int .i64 x0) (show w.heap.size + 1 < _ from by omega)
          replace M2 := M2.put ⟨w.heap.size + 1, 0, none⟩ (.int .i64 x0) (show w.heap.size ≤ w.heap.size + 1 from by omega)
          replace r0 := cell_set r0 ⟨w.heap.size + 1, 1, none⟩ (.int .i64 x1) (.inr (by simp))
          replace r1 := World.cell?_setCell_same _ _ (.int .i64 x1) r1
          replace r2 := cell_set r2 ⟨w.heap.size + 1, 1, none⟩ (.int .i64 x1) (.inr (by simp))
          replace hown2 := own_put hown2 ⟨w.heap.size + 1, 1, none⟩ (.int .i64 x1) (show w.heap.size + 1 < _ from by omega)
          replace M2 := M2.put ⟨w.heap.size + 1, 1, none⟩ (.int .i64 x1) (show w.heap.size ≤ w.heap.size + 1 from by omega)
          replace r0 := cell_set r0 ⟨w.heap.size + 1, 2, none⟩ (.slice A n C) (.inr (by simp))
          replace r1 := cell_set r1 ⟨w.heap.size + 1, 2, none⟩ (.slice A n C) (.inr (by simp))
          replace r2 := World.cell?_setCell_same _ _ (.slice A n C) r2
          replace hown2 := own_put hown2 ⟨w.heap.size + 1, 2, none⟩ (.slice A n C) (show w.heap.size + 1 < _ from by omega)
          replace M2 := M2.put ⟨w.heap.size + 1, 2, none⟩ (.slice A n C) (show w.heap.size ≤ w.heap.size + 1 from by omega)
          generalize (((u2.setCell ⟨w.heap.size + 1, 0, none⟩ (.int .i64 x0)).setCell ⟨w.heap.size + 1, 1, none⟩ (.int .i64 x1)).setCell ⟨w.heap.size + 1, 2, none⟩ (.slice A n C)) = WF at *
          exact bodyPost_ret (v := .agg #[.int .i64 x0, .int .i64 x1, .slice A n C]) (by simp [results, Try.results38, go_sem, r0, r1, r2]) rfl ⟨_, _, _, rfl, own_lowR hown2 (by omega), M2⟩
      · have d0 := HX1.out _ hM1
        go_simp
        refine hK _ _ ?_
        clear hK K
        try simp only [Act.put, List.getElem_toArray, List.getElem_cons_succ, List.getElem_cons_zero, List.setIfInBounds_toArray, List.set_cons_zero, List.set_cons_succ]
        clear d0
        refine wpAny_ready (rs := [1, 7]) (by kernel_rfl) (by simp) ?_
        refine (AllReady.cons rfl (fun K hK => ?_) (AllReady.cons rfl (fun K hK => ?_) AllReady.nil))
        · have d0 := HX0.out _ hM1
          go_simp
          refine hK _ _ ?_
          clear hK K
          try simp only [Act.put, List.getElem_toArray, List.getElem_cons_succ, List.getElem_cons_zero, List.setIfInBounds_toArray, List.set_cons_zero, List.set_cons_succ]
          clear d0
          refine wpAny_ready (rs := [7]) (by kernel_rfl) (by simp) ?_
          refine (AllReady.cons rfl (fun K hK => ?_) AllReady.nil)
          refine step_appR (nc := 5) (cell := THop.cell) (by decide) oneHopC (by rfl) (.tmp 7) (.tmp 9) 80 (by rfl) WW.heap.size 115 i0 _ Try.underlying80 hi0 hz0 rfl hz1 (by rw [hz2]; decide) _ [] 0 (by rfl) hA a n c zs (by rfl) HC.out ((HH.out _ hM1).mono (Nat.le_trans hB (M0.trans hM1).size)) (by omega) hM1.size ?_
          intro v2 u2 hown2 hgr2 hat2
          refine hK _ _ ?_
          clear hK K
          try simp only [Act.put, List.getElem_toArray, List.getElem_cons_succ, List.getElem_cons_zero, List.setIfInBounds_toArray, List.set_cons_zero, List.set_cons_succ]
          have hM2 := mk_grewR hM1 hgr2 (fun g e => (hA.lt g e).1)
          simp only [Nat.zero_add, List.nil_append] at hown2
          obtain ⟨A, C, rfl, hca, hcb⟩ := ownsRow_sliceR2 hown2
          clear hA hgr2 hat2 hca hcb
          refine wpAny_take (i := 8) (v := _) rfl (by kernel_rfl) (by kernel_rfl) (by kernel_rfl) (fun _ _ _ h => h) (Or.inl ⟨by rfl, fun w => by go_simp; try with_reducible rfl⟩) ?_
          try simp only [Act.put, List.getElem_toArray, List.getElem_cons_succ, List.getElem_cons_zero, List.setIfInBounds_toArray, List.set_cons_zero, List.set_cons_succ]
          refine wpAny_ready (rs := [9]) (by kernel_rfl) (by simp) ?_
          refine (AllReady.cons rfl (fun K hK => ?_) AllReady.nil)
          have q0 := HR0.out _ hM2
          have q1 := HR1.out _ hM2
          have q2 := HR2.out _ hM2
          have fq := HFR.out _ hM2
          go_simp
          refine hK _ _ ?_
          clear hK K
          try simp only [Act.put, List.getElem_toArray, List.getElem_cons_succ, List.getElem_cons_zero, List.setIfInBounds_toArray, List.set_cons_zero, List.set_cons_succ]
          refine wpAny_done (by kernel_rfl) ?_ _
          refine ‹∀ (a : Act) (w : World), _ → _› _ _ ?_
          have zz2 := hM2.size
          have M2 := M0.trans hM2
          have r0 := HR0.out _ hM2
          have r1 := HR1.out _ hM2
          have r2 := HR2.out _ hM2
          clear HX0 HX1 HX2 HR0 HR1 HR2 HFR HH
          go_wp2_with fail
          replace r0 := World.cell?_setCell_same _ _ (.int .i64 x0) r0
          replace r1 := cell_set r1 ⟨w.heap.size + 1, 0, none⟩ (.int .i64 x0) (.inr (by simp))
          replace r2 := cell_set r2 ⟨w.heap.size + 1, 0, none⟩ (.int .i64 x0) (.inr (by simp))
          replace hown2 := own_put hown2 ⟨w.heap.size + 1, 0, none⟩ (.int .i64 x0) (show w.heap.size + 1 < _ from by omega)
          replace M2 := M2.put ⟨w.heap.size + 1, 0, none⟩ (.int .i64 x0) (show w.heap.size ≤ w.heap.size + 1 from by omega)
          replace r0 := cell_set r0 ⟨w.heap.size + 1, 1, none⟩ (.int .i64 x1) (.inr (by simp))
          replace r1 := World.cell?_setCell_same _ _ (.int .i64 x1) r1
          replace r2 := cell_set r2 ⟨w.heap.size + 1, 1, none⟩ (.int .i64 x1) (.inr (by simp))
          replace hown2 := own_put hown2 ⟨w.heap.size + 1, 1, none⟩ (.int .i64 x1) (show w.heap.size + 1 < _ from by omega)
          replace M2 := M2.put ⟨w.heap.size + 1, 1, none⟩ (.int .i64 x1) (show w.heap.size ≤ w.heap.size + 1 from by omega)
          replace r0 := cell_set r0 ⟨w.heap.size + 1, 2, none⟩ (.slice A n C) (.inr (by simp))
          replace r1 := cell_set r1 ⟨w.heap.size + 1, 2, none⟩ (.slice A n C) (.inr (by simp))
          replace r2 := World.cell?_setCell_same _ _ (.slice A n C) r2
          replace hown2 := own_put hown2 ⟨w.heap.size + 1, 2, none⟩ (.slice A n C) (show w.heap.size + 1 < _ from by omega)
          replace M2 := M2.put ⟨w.heap.size + 1, 2, none⟩ (.slice A n C) (show w.heap.size ≤ w.heap.size + 1 from by omega)
          generalize (((u2.setCell ⟨w.heap.size + 1, 0, none⟩ (.int .i64 x0)).setCell ⟨w.heap.size + 1, 1, none⟩ (.int .i64 x1)).setCell ⟨w.heap.size + 1, 2, none⟩ (.slice A n C)) = WF at *
          exact bodyPost_ret (v := .agg #[.int .i64 x0, .int .i64 x1, .slice A n C]) (by simp [results, Try.results38, go_sem, r0, r1, r2]) rfl ⟨_, _, _, rfl, own_lowR hown2 (by omega), M2⟩
        · refine step_appR (nc := 5) (cell := THop.cell) (by decide) oneHopC (by rfl) (.tmp 7) (.tmp 9) 80 (by rfl) WW.heap.size 115 i0 _ Try.underlying80 hi0 hz0 rfl hz1 (by rw [hz2]; decide) _ [] 0 (by rfl) hA a n c zs (by rfl) HC.out ((HH.out _ hM1).mono (Nat.le_trans hB (M0.trans hM1).size)) (by omega) hM1.size ?_
          intro v2 u2 hown2 hgr2 hat2
          refine hK _ _ ?_
          clear hK K
          try simp only [Act.put, List.getElem_toArray, List.getElem_cons_succ, List.getElem_cons_zero, List.setIfInBounds_toArray, List.set_cons_zero, List.set_cons_succ]
          have hM2 := mk_grewR hM1 hgr2 (fun g e => (hA.lt g e).1)
          simp only [Nat.zero_add, List.nil_append] at hown2
          obtain ⟨A, C, rfl, hca, hcb⟩ := ownsRow_sliceR2 hown2
          clear hA hgr2 hat2 hca hcb
          refine wpAny_ready (rs := [1]) (by kernel_rfl) (by simp) ?_
          refine (AllReady.cons rfl (fun K hK => ?_) AllReady.nil)
          have d0 := HX0.out _ hM2
          go_simp
          refine hK _ _ ?_
          clear hK K
          try simp only [Act.put, List.getElem_toArray, List.getElem_cons_succ, List.getElem_cons_zero, List.setIfInBounds_toArray, List.set_cons_zero, List.set_cons_succ]
          clear d0
          refine wpAny_take (i := 8) (v := _) rfl (by kernel_rfl) (by kernel_rfl) (by kernel_rfl) (fun _ _ _ h => h) (Or.inl ⟨by rfl, fun w => by go_simp; try with_reducible rfl⟩) ?_
          try simp only [Act.put, List.getElem_toArray, List.getElem_cons_succ, List.getElem_cons_zero, List.setIfInBounds_toArray, List.set_cons_zero, List.set_cons_succ]
          refine wpAny_ready (rs := [9]) (by kernel_rfl) (by simp) ?_
          refine (AllReady.cons rfl (fun K hK => ?_) AllReady.nil)
          have q0 := HR0.out _ hM2
          have q1 := HR1.out _ hM2
          have q2 := HR2.out _ hM2
          have fq := HFR.out _ hM2
          go_simp
          refine hK _ _ ?_
          clear hK K
          try simp only [Act.put, List.getElem_toArray, List.getElem_cons_succ, List.getElem_cons_zero, List.setIfInBounds_toArray, List.set_cons_zero, List.set_cons_succ]
          refine wpAny_done (by kernel_rfl) ?_ _
          refine ‹∀ (a : Act) (w : World), _ → _› _ _ ?_
          have zz2 := hM2.size
          have M2 := M0.trans hM2
          have r0 := HR0.out _ hM2
          have r1 := HR1.out _ hM2
          have r2 := HR2.out _ hM2
          clear HX0 HX1 HX2 HR0 HR1 HR2 HFR HH
          go_wp2_with fail
          replace r0 := World.cell?_setCell_same _ _ (.int .i64 x0) r0
          replace r1 := cell_set r1 ⟨w.heap.size + 1, 0, none⟩ (.int .i64 x0) (.inr (by simp))
          replace r2 := cell_set r2 ⟨w.heap.size + 1, 0, none⟩ (.int .i64 x0) (.inr (by simp))
          replace hown2 := own_put hown2 ⟨w.heap.size + 1, 0, none⟩ (.int .i64 x0) (show w.heap.size + 1 < _ from by omega)
          replace M2 := M2.put ⟨w.heap.size + 1, 0, none⟩ (.int .i64 x0) (show w.heap.size ≤ w.heap.size + 1 from by omega)
          replace r0 := cell_set r0 ⟨w.heap.size + 1, 1, none⟩ (.int .i64 x1) (.inr (by simp))
          replace r1 := World.cell?_setCell_same _ _ (.int .i64 x1) r1
          replace r2 := cell_set r2 ⟨w.heap.size + 1, 1, none⟩ (.int .i64 x1) (.inr (by simp))
          replace hown2 := own_put hown2 ⟨w.heap.size + 1, 1, none⟩ (.int .i64 x1) (show w.heap.size + 1 < _ from by omega)
          replace M2 := M2.put ⟨w.heap.size + 1, 1, none⟩ (.int .i64 x1) (show w.heap.size ≤ w.heap.size + 1 from by omega)
          replace r0 := cell_set r0 ⟨w.heap.size + 1, 2, none⟩ (.slice A n C) (.inr (by simp))
          replace r1 := cell_set r1 ⟨w.heap.size + 1, 2, none⟩ (.slice A n C) (.inr (by simp))
          replace r2 := World.cell?_setCell_same _ _ (.slice A n C) r2
          replace hown2 := own_put hown2 ⟨w.heap.size + 1, 2, none⟩ (.slice A n C) (show w.heap.size + 1 < _ from by omega)
          replace M2 := M2.put ⟨w.heap.size + 1, 2, none⟩ (.slice A n C) (show w.heap.size ≤ w.heap.size + 1 from by omega)
          generalize (((u2.setCell ⟨w.heap.size + 1, 0, none⟩ (.int .i64 x0)).setCell ⟨w.heap.size + 1, 1, none⟩ (.int .i64 x1)).setCell ⟨w.heap.size + 1, 2, none⟩ (.slice A n C)) = WF at *
          exact bodyPost_ret (v := .agg #[.int .i64 x0, .int .i64 x1, .slice A n C]) (by simp [results, Try.results38, go_sem, r0, r1, r2]) rfl ⟨_, _, _, rfl, own_lowR hown2 (by omega), M2⟩
      · refine step_appR (nc := 5) (cell := THop.cell) (by decide) oneHopC (by rfl) (.tmp 7) (.tmp 9) 80 (by rfl) WW.heap.size 115 i0 _ Try.underlying80 hi0 hz0 rfl hz1 (by rw [hz2]; decide) _ [] 0 (by rfl) hA a n c zs (by rfl) HC.out ((HH.out _ hM1).mono (Nat.le_trans hB (M0.trans hM1).size)) (by omega) hM1.size ?_
        intro v2 u2 hown2 hgr2 hat2
        refine hK _ _ ?_
        clear hK K
        try simp only [Act.put, List.getElem_toArray, List.getElem_cons_succ, List.getElem_cons_zero, List.setIfInBounds_toArray, List.set_cons_zero, List.set_cons_succ]
        have hM2 := mk_grewR hM1 hgr2 (fun g e => (hA.lt g e).1)
        simp only [Nat.zero_add, List.nil_append] at hown2
        obtain ⟨A, C, rfl, hca, hcb⟩ := ownsRow_sliceR2 hown2
        clear hA hgr2 hat2 hca hcb
        refine wpAny_ready (rs := [1, 3]) (by kernel_rfl) (by simp) ?_
        refine (AllReady.cons rfl (fun K hK => ?_) (AllReady.cons rfl (fun K hK => ?_) AllReady.nil))
        · have d0 := HX0.out _ hM2
          go_simp
          refine hK _ _ ?_
          clear hK K
          try simp only [Act.put, List.getElem_toArray, List.getElem_cons_succ, List.getElem_cons_zero, List.setIfInBounds_toArray, List.set_cons_zero, List.set_cons_succ]
          clear d0
          refine wpAny_ready (rs := [3]) (by kernel_rfl) (by simp) ?_
          refine (AllReady.cons rfl (fun K hK => ?_) AllReady.nil)
          have d0 := HX1.out _ hM2
          go_simp
          refine hK _ _ ?_
          clear hK K
          try simp only [Act.put, List.getElem_toArray, List.getElem_cons_succ, List.getElem_cons_zero, List.setIfInBounds_toArray, List.set_cons_zero, List.set_cons_succ]
          clear d0
          refine wpAny_take (i := 8) (v := _) rfl (by kernel_rfl) (by kernel_rfl) (by kernel_rfl) (fun _ _ _ h => h) (Or.inl ⟨by rfl, fun w => by go_simp; try with_reducible rfl⟩) ?_
          try simp only [Act.put, List.getElem_toArray, List.getElem_cons_succ, List.getElem_cons_zero, List.setIfInBounds_toArray, List.set_cons_zero, List.set_cons_succ]
          refine wpAny_ready (rs := [9]) (by kernel_rfl) (by simp) ?_
          refine (AllReady.cons rfl (fun K hK => ?_) AllReady.nil)
          have q0 := HR0.out _ hM2
          have q1 := HR1.out _ hM2
          have q2 := HR2.out _ hM2
          have fq := HFR.out _ hM2
          go_simp
          refine hK _ _ ?_
          clear hK K
          try simp only [Act.put, List.getElem_toArray, List.getElem_cons_succ, List.getElem_cons_zero, List.setIfInBounds_toArray, List.set_cons_zero, List.set_cons_succ]
          refine wpAny_done (by kernel_rfl) ?_ _
          refine ‹∀ (a : Act) (w : World), _ → _› _ _ ?_
          have zz2 := hM2.size
          have M2 := M0.trans hM2
          have r0 := HR0.out _ hM2
          have r1 := HR1.out _ hM2
          have r2 := HR2.out _ hM2
          clear HX0 HX1 HX2 HR0 HR1 HR2 HFR HH
          go_wp2_with fail
          replace r0 := World.cell?_setCell_same _ _ (.int .i64 x0) r0
          replace r1 := cell_set r1 ⟨w.heap.size + 1, 0, none⟩ (.int .i64 x0) (.inr (by simp))
          replace r2 := cell_set r2 ⟨w.heap.size + 1, 0, none⟩ (.int .i64 x0) (.inr (by simp))
          replace hown2 := own_put hown2 ⟨w.heap.size + 1, 0, none⟩ (.int .i64 x0) (show w.heap.size + 1 < _ from by omega)
          replace M2 := M2.put ⟨w.heap.size + 1, 0, none⟩ (.int .i64 x0) (show w.heap.size ≤ w.heap.size + 1 from by omega)
          replace r0 := cell_set r0 ⟨w.heap.size + 1, 1, none⟩ (.int .i64 x1) (.inr (by simp))
          replace r1 := World.cell?_setCell_same _ _ (.int .i64 x1) r1
          replace r2 := cell_set r2 ⟨w.heap.size + 1, 1, none⟩ (.int .i64 x1) (.inr (by simp))
          replace hown2 := own_put hown2 ⟨w.heap.size + 1, 1, none⟩ (.int .i64 x1) (show w.heap.size + 1 < _ from by omega)
          replace M2 := M2.put ⟨w.heap.size + 1, 1, none⟩ (.int .i64 x1) (show w.heap.size ≤ w.heap.size + 1 from by omega)
          replace r0 := cell_set r0 ⟨w.heap.size + 1, 2, none⟩ (.slice A n C) (.inr (by simp))
          replace r1 := cell_set r1 ⟨w.heap.size + 1, 2, none⟩ (.slice A n C) (.inr (by simp))
          replace r2 := World.cell?_setCell_same _ _ (.slice A n C) r2
          replace hown2 := own_put hown2 ⟨w.heap.size + 1, 2, none⟩ (.slice A n C) (show w.heap.size + 1 < _ from by omega)
          replace M2 := M2.put ⟨w.heap.size + 1, 2, none⟩ (.slice A n C) (show w.heap.size ≤ w.heap.size + 1 from by omega)
          generalize (((u2.setCell ⟨w.heap.size + 1, 0, none⟩ (.int .i64 x0)).setCell ⟨w.heap.size + 1, 1, none⟩ (.int .i64 x1)).setCell ⟨w.heap.size + 1, 2, none⟩ (.slice A n C)) = WF at *
          exact bodyPost_ret (v := .agg #[.int .i64 x0, .int .i64 x1, .slice A n C]) (by simp [results, Try.results38, go_sem, r0, r1, r2]) rfl ⟨_, _, _, rfl, own_lowR hown2 (by omega), M2⟩
        · have d0 := HX1.out _ hM2
          go_simp
          refine hK _ _ ?_
          clear hK K
          try simp only [Act.put, List.getElem_toArray, List.getElem_cons_succ, List.getElem_cons_zero, List.setIfInBounds_toArray, List.set_cons_zero, List.set_cons_succ]
          clear d0
          refine wpAny_ready (rs := [1]) (by kernel_rfl) (by simp) ?_
          refine (AllReady.cons rfl (fun K hK => ?_) AllReady.nil)
          have d0 := HX0.out _ hM2
          go_simp
          refine hK _ _ ?_
          clear hK K
          try simp only [Act.put, List.getElem_toArray, List.getElem_cons_succ, List.getElem_cons_zero, List.setIfInBounds_toArray, List.set_cons_zero, List.set_cons_succ]
          clear d0
          refine wpAny_take (i := 8) (v := _) rfl (by kernel_rfl) (by kernel_rfl) (by kernel_rfl) (fun _ _ _ h => h) (Or.inl ⟨by rfl, fun w => by go_simp; try with_reducible rfl⟩) ?_
          try simp only [Act.put, List.getElem_toArray, List.getElem_cons_succ, List.getElem_cons_zero, List.setIfInBounds_toArray, List.set_cons_zero, List.set_cons_succ]
          refine wpAny_ready (rs := [9]) (by kernel_rfl) (by simp) ?_
          refine (AllReady.cons rfl (fun K hK => ?_) AllReady.nil)
          have q0 := HR0.out _ hM2
          have q1 := HR1.out _ hM2
          have q2 := HR2.out _ hM2
          have fq := HFR.out _ hM2
          go_simp
          refine hK _ _ ?_
          clear hK K
          try simp only [Act.put, List.getElem_toArray, List.getElem_cons_succ, List.getElem_cons_zero, List.setIfInBounds_toArray, List.set_cons_zero, List.set_cons_succ]
          refine wpAny_done (by kernel_rfl) ?_ _
          refine ‹∀ (a : Act) (w : World), _ → _› _ _ ?_
          have zz2 := hM2.size
          have M2 := M0.trans hM2
          have r0 := HR0.out _ hM2
          have r1 := HR1.out _ hM2
          have r2 := HR2.out _ hM2
          clear HX0 HX1 HX2 HR0 HR1 HR2 HFR HH
          go_wp2_with fail
          replace r0 := World.cell?_setCell_same _ _ (.int .i64 x0) r0
          replace r1 := cell_set r1 ⟨w.heap.size + 1, 0, none⟩ (.int .i64 x0) (.inr (by simp))
          replace r2 := cell_set r2 ⟨w.heap.size + 1, 0, none⟩ (.int .i64 x0) (.inr (by simp))
          replace hown2 := own_put hown2 ⟨w.heap.size + 1, 0, none⟩ (.int .i64 x0) (show w.heap.size + 1 < _ from by omega)
          replace M2 := M2.put ⟨w.heap.size + 1, 0, none⟩ (.int .i64 x0) (show w.heap.size ≤ w.heap.size + 1 from by omega)
          replace r0 := cell_set r0 ⟨w.heap.size + 1, 1, none⟩ (.int .i64 x1) (.inr (by simp))
          replace r1 := World.cell?_setCell_same _ _ (.int .i64 x1) r1
          replace r2 := cell_set r2 ⟨w.heap.size + 1, 1, none⟩ (.int .i64 x1) (.inr (by simp))
          replace hown2 := own_put hown2 ⟨w.heap.size + 1, 1, none⟩ (.int .i64 x1) (show w.heap.size + 1 < _ from by omega)
          replace M2 := M2.put ⟨w.heap.size + 1, 1, none⟩ (.int .i64 x1) (show w.heap.size ≤ w.heap.size + 1 from by omega)
          replace r0 := cell_set r0 ⟨w.heap.size + 1, 2, none⟩ (.slice A n C) (.inr (by simp))
          replace r1 := cell_set r1 ⟨w.heap.size + 1, 2, none⟩ (.slice A n C) (.inr (by simp))
          replace r2 := World.cell?_setCell_same _ _ (.slice A n C) r2
          replace hown2 := own_put hown2 ⟨w.heap.size + 1, 2, none⟩ (.slice A n C) (show w.heap.size + 1 < _ from by omega)
          replace M2 := M2.put ⟨w.heap.size + 1, 2, none⟩ (.slice A n C) (show w.heap.size ≤ w.heap.size + 1 from by omega)
          generalize (((u2.setCell ⟨w.heap.size + 1, 0, none⟩ (.int .i64 x0)).setCell ⟨w.heap.size + 1, 1, none⟩ (.int .i64 x1)).setCell ⟨w.heap.size + 1, 2, none⟩ (.slice A n C)) = WF at *
          exact bodyPost_ret (v := .agg #[.int .i64 x0, .int .i64 x1, .slice A n C]) (by simp [results, Try.results38, go_sem, r0, r1, r2]) rfl ⟨_, _, _, rfl, own_lowR hown2 (by omega), M2⟩

end Go.Proofs.Ytdlafigjkefllaa
