
/- ReadHop of both sides. -/
import Derived.Test.YtiphndgmgpiodaaDec
import Derived.Test.YtiphndgmgpiodaaVHop
import Derived.Test.YtiphndgmgpiodaaWs
import Derived.Test.YtiphndgmgpiodaaRet
import Derived.RegionTactic
import Derived.ChangeAlike
import Derived.BigRegion
import Derived.BigQuiet
namespace Go.Proofs.Ytiphndgmgpiodaa
open Go.ChangeShapes Go.WideShapes Go.ChangeAt Go.RowKit
set_option linter.unusedVariables false
def hopL5 (l : List Int) : THop := ⟨l.getD 0 0, l.getD 1 0, l.getD 2 0, l.getD 3 0, l.getD 4 0⟩
def rhO (zs : List Int) (x : Int) : Option (THop × Int) :=
  match dc zs x 5 with
  | none => none
  | some (l, m) => if hopOk (hopL5 l) = true then some (hopL5 l, m) else none
def rhH : Option (THop × Int) → THop
  | some (h, _) => h
  | none => ⟨0, 0, 0, 0, 0⟩
def rhX : Option (THop × Int) → Int
  | some (_, m) => m
  | none => 0
def rhY : Option (THop × Int) → Bool
  | some _ => true
  | none => false
theorem dc_len {zs : List Int} {x n m : Int} {l : List Int} (h : dc zs x n = some (l, m)) : l.length = n.toNat := by
  unfold dc at h
  split at h
  · exact dcN_len h
  · cases h
theorem rhO_none {zs : List Int} {x : Int} (h : dc zs x 5 = none) : rhO zs x = none := by unfold rhO; rw [h]
theorem rhO_no {zs : List Int} {x m : Int} {l : List Int} (h : dc zs x 5 = some (l, m)) (hk : hopOk (hopL5 l) = false) : rhO zs x = none := by unfold rhO; rw [h]; simp only [hk, Bool.false_eq_true, if_false]
theorem rhO_yes {zs : List Int} {x m : Int} {l : List Int} (h : dc zs x 5 = some (l, m)) (hk : hopOk (hopL5 l) = true) : rhO zs x = some (hopL5 l, m) := by unfold rhO; rw [h]; simp only [hk, if_true]
set_option maxRecDepth 100000 in
set_option maxHeartbeats 4000000 in
theorem implHopOf (b off n c : Nat) (q : THop) (w : World) (hn : 5 ≤ n) (hc0 : w.cell? ⟨b, off, none⟩ = some (.int .i64 q.nd)) (hc1 : w.cell? ⟨b, off + 1, none⟩ = some (.int .i64 q.ing)) (hc2 : w.cell? ⟨b, off + 2, none⟩ = some (.int .i64 q.eg)) (hc3 : w.cell? ⟨b, off + 3, none⟩ = some (.int .i64 q.exp)) (hc4 : w.cell? ⟨b, off + 4, none⟩ = some (.int .i64 q.mac)) :
    Calls Try.prog 95 #[.slice (some ⟨b, off, none⟩) n c] w fun e w' => e = .returned (.agg #[.int .i64 q.nd, .int .i64 q.ing, .int .i64 q.eg, .int .i64 q.exp, .int .i64 q.mac]) ∧ Mk0 w w' := by
  have M0 := Mk.alloc w (Obj.cells #[Value.int .i64 0, Value.int .i64 0, Value.int .i64 0, Value.int .i64 0, Value.int .i64 0] 24)
  have r0 : (w.alloc (Obj.cells #[Value.int .i64 0, Value.int .i64 0, Value.int .i64 0, Value.int .i64 0, Value.int .i64 0] 24)).cell? ⟨w.heap.size, 0, none⟩ = some (.int .i64 0) := by simp [go_sem]
  have r1 : (w.alloc (Obj.cells #[Value.int .i64 0, Value.int .i64 0, Value.int .i64 0, Value.int .i64 0, Value.int .i64 0] 24)).cell? ⟨w.heap.size, 1, none⟩ = some (.int .i64 0) := by simp [go_sem]
  have r2 : (w.alloc (Obj.cells #[Value.int .i64 0, Value.int .i64 0, Value.int .i64 0, Value.int .i64 0, Value.int .i64 0] 24)).cell? ⟨w.heap.size, 2, none⟩ = some (.int .i64 0) := by simp [go_sem]
  have r3 : (w.alloc (Obj.cells #[Value.int .i64 0, Value.int .i64 0, Value.int .i64 0, Value.int .i64 0, Value.int .i64 0] 24)).cell? ⟨w.heap.size, 3, none⟩ = some (.int .i64 0) := by simp [go_sem]
  have r4 : (w.alloc (Obj.cells #[Value.int .i64 0, Value.int .i64 0, Value.int .i64 0, Value.int .i64 0, Value.int .i64 0] 24)).cell? ⟨w.heap.size, 4, none⟩ = some (.int .i64 0) := by simp [go_sem]
  have fr : ∀ o, (w.alloc (Obj.cells #[Value.int .i64 0, Value.int .i64 0, Value.int .i64 0, Value.int .i64 0, Value.int .i64 0] 24)).frozen? ⟨w.heap.size, o, none⟩ = false := fun o => by simp [go_sem]
  have c0 := M0.cellAt hc0
  have c1 := M0.cellAt hc1
  have c2 := M0.cellAt hc2
  have c3 := M0.cellAt hc3
  have c4 := M0.cellAt hc4
  have hl5 : (4 : Int) < (n : Int) := by omega
  have hl4 : (3 : Int) < (n : Int) := by omega
  have hl3 : (2 : Int) < (n : Int) := by omega
  have hl2 : (1 : Int) < (n : Int) := by omega
  have hl1 : (0 : Int) < (n : Int) := by omega
  have hl0 : 0 < n := by omega
  have hs1 : (w.alloc (Obj.cells #[Value.int .i64 0, Value.int .i64 0, Value.int .i64 0, Value.int .i64 0, Value.int .i64 0] 24)).heap.size = w.heap.size + 1 := by rw [World.size_alloc]
  go_enter Try.func95, Try.ntmps95
  go_wp2_with fail
  refine wp_region_wkt (fun w' => Mk0 (w.alloc (Obj.cells #[Value.int .i64 0, Value.int .i64 0, Value.int .i64 0, Value.int .i64 0, Value.int .i64 0] 24)) w' ∧ w'.cell? ⟨b, off, none⟩ = some (.int .i64 q.nd) ∧ w'.cell? ⟨b, off + 1, none⟩ = some (.int .i64 q.ing) ∧ w'.cell? ⟨b, off + 2, none⟩ = some (.int .i64 q.eg) ∧ w'.cell? ⟨b, off + 3, none⟩ = some (.int .i64 q.exp) ∧ w'.cell? ⟨b, off + 4, none⟩ = some (.int .i64 q.mac) ∧ w'.cell? ⟨w.heap.size, 0, none⟩ = some (.int .i64 0) ∧ w'.cell? ⟨w.heap.size, 1, none⟩ = some (.int .i64 0) ∧ w'.cell? ⟨w.heap.size, 2, none⟩ = some (.int .i64 0) ∧ w'.cell? ⟨w.heap.size, 3, none⟩ = some (.int .i64 0) ∧ w'.cell? ⟨w.heap.size, 4, none⟩ = some (.int .i64 0)) 16 (by kernel_rfl) (by kernel_rfl) (by kernel_rfl) (by decide) (⟨Mk.drew1 _, c0, c1, c2, c3, c4, r0, r1, r2, r3, r4⟩) ?_
  change WkT _ _ _ _ _ 16 0 _
  first | (refine WkT.skip (m := 15) (k := 0) rfl (by rfl) ?_) | (refine WkT.pure (m := 15) (k := 0) (v := _) rfl (by rfl) (fun wv => by go_simp; try with_reducible rfl) ?_) | (refine WkT.step (m := 15) (k := 0) (v := _) rfl (by rfl) (by kernel_rfl) (fun wv hS => by obtain ⟨s0, s1, s2, s3, s4, s5, s6, s7, s8, s9, s10⟩ := hS; go_simp; try with_reducible rfl) ?_)
  try simp only [Act.put, List.getElem_toArray, List.getElem_cons_zero, List.setIfInBounds_toArray, List.set_cons_zero, List.set_cons_succ]
  first | (refine WkT.skip (m := 14) (k := 1) rfl (by rfl) ?_) | (refine WkT.pure (m := 14) (k := 1) (v := _) rfl (by rfl) (fun wv => by go_simp; try with_reducible rfl) ?_) | (refine WkT.step (m := 14) (k := 1) (v := _) rfl (by rfl) (by kernel_rfl) (fun wv hS => by obtain ⟨s0, s1, s2, s3, s4, s5, s6, s7, s8, s9, s10⟩ := hS; go_simp; try with_reducible rfl) ?_)
  try simp only [Act.put, List.getElem_toArray, List.getElem_cons_succ, List.getElem_cons_zero, List.setIfInBounds_toArray, List.set_cons_zero, List.set_cons_succ]
  first | (refine WkT.skip (m := 13) (k := 2) rfl (by rfl) ?_) | (refine WkT.pure (m := 13) (k := 2) (v := _) rfl (by rfl) (fun wv => by go_simp; try with_reducible rfl) ?_) | (refine WkT.step (m := 13) (k := 2) (v := _) rfl (by rfl) (by kernel_rfl) (fun wv hS => by obtain ⟨s0, s1, s2, s3, s4, s5, s6, s7, s8, s9, s10⟩ := hS; go_simp; try with_reducible rfl) ?_)
  try simp only [Act.put, List.getElem_toArray, List.getElem_cons_succ, List.getElem_cons_zero, List.setIfInBounds_toArray, List.set_cons_zero, List.set_cons_succ]
  first | (refine WkT.skip (m := 12) (k := 3) rfl (by rfl) ?_) | (refine WkT.pure (m := 12) (k := 3) (v := _) rfl (by rfl) (fun wv => by go_simp; try with_reducible rfl) ?_) | (refine WkT.step (m := 12) (k := 3) (v := _) rfl (by rfl) (by kernel_rfl) (fun wv hS => by obtain ⟨s0, s1, s2, s3, s4, s5, s6, s7, s8, s9, s10⟩ := hS; go_simp; try with_reducible rfl) ?_)
  try simp only [Act.put, List.getElem_toArray, List.getElem_cons_succ, List.getElem_cons_zero, List.setIfInBounds_toArray, List.set_cons_zero, List.set_cons_succ]
  first | (refine WkT.skip (m := 11) (k := 4) rfl (by rfl) ?_) | (refine WkT.pure (m := 11) (k := 4) (v := _) rfl (by rfl) (fun wv => by go_simp; try with_reducible rfl) ?_) | (refine WkT.step (m := 11) (k := 4) (v := _) rfl (by rfl) (by kernel_rfl) (fun wv hS => by obtain ⟨s0, s1, s2, s3, s4, s5, s6, s7, s8, s9, s10⟩ := hS; go_simp; try with_reducible rfl) ?_)
  try simp only [Act.put, List.getElem_toArray, List.getElem_cons_succ, List.getElem_cons_zero, List.setIfInBounds_toArray, List.set_cons_zero, List.set_cons_succ]
  first | (refine WkT.skip (m := 10) (k := 5) rfl (by rfl) ?_) | (refine WkT.pure (m := 10) (k := 5) (v := _) rfl (by rfl) (fun wv => by go_simp; try with_reducible rfl) ?_) | (refine WkT.step (m := 10) (k := 5) (v := _) rfl (by rfl) (by kernel_rfl) (fun wv hS => by obtain ⟨s0, s1, s2, s3, s4, s5, s6, s7, s8, s9, s10⟩ := hS; go_simp; try with_reducible rfl) ?_)
  try simp only [Act.put, List.getElem_toArray, List.getElem_cons_succ, List.getElem_cons_zero, List.setIfInBounds_toArray, List.set_cons_zero, List.set_cons_succ]
  first | (refine WkT.skip (m := 9) (k := 6) rfl (by rfl) ?_) | (refine WkT.pure (m := 9) (k := 6) (v := _) rfl (by rfl) (fun wv => by go_simp; try with_reducible rfl) ?_) | (refine WkT.step (m := 9) (k := 6) (v := _) rfl (by rfl) (by kernel_rfl) (fun wv hS => by obtain ⟨s0, s1, s2, s3, s4, s5, s6, s7, s8, s9, s10⟩ := hS; go_simp; try with_reducible rfl) ?_)
  try simp only [Act.put, List.getElem_toArray, List.getElem_cons_succ, List.getElem_cons_zero, List.setIfInBounds_toArray, List.set_cons_zero, List.set_cons_succ]
  first | (refine WkT.skip (m := 8) (k := 7) rfl (by rfl) ?_) | (refine WkT.pure (m := 8) (k := 7) (v := _) rfl (by rfl) (fun wv => by go_simp; try with_reducible rfl) ?_) | (refine WkT.step (m := 8) (k := 7) (v := _) rfl (by rfl) (by kernel_rfl) (fun wv hS => by obtain ⟨s0, s1, s2, s3, s4, s5, s6, s7, s8, s9, s10⟩ := hS; go_simp; try with_reducible rfl) ?_)
  try simp only [Act.put, List.getElem_toArray, List.getElem_cons_succ, List.getElem_cons_zero, List.setIfInBounds_toArray, List.set_cons_zero, List.set_cons_succ]
  first | (refine WkT.skip (m := 7) (k := 8) rfl (by rfl) ?_) | (refine WkT.pure (m := 7) (k := 8) (v := _) rfl (by rfl) (fun wv => by go_simp; try with_reducible rfl) ?_) | (refine WkT.step (m := 7) (k := 8) (v := _) rfl (by rfl) (by kernel_rfl) (fun wv hS => by obtain ⟨s0, s1, s2, s3, s4, s5, s6, s7, s8, s9, s10⟩ := hS; go_simp; try with_reducible rfl) ?_)
  try simp only [Act.put, List.getElem_toArray, List.getElem_cons_succ, List.getElem_cons_zero, List.setIfInBounds_toArray, List.set_cons_zero, List.set_cons_succ]
  first | (refine WkT.skip (m := 6) (k := 9) rfl (by rfl) ?_) | (refine WkT.pure (m := 6) (k := 9) (v := _) rfl (by rfl) (fun wv => by go_simp; try with_reducible rfl) ?_) | (refine WkT.step (m := 6) (k := 9) (v := _) rfl (by rfl) (by kernel_rfl) (fun wv hS => by obtain ⟨s0, s1, s2, s3, s4, s5, s6, s7, s8, s9, s10⟩ := hS; go_simp; try with_reducible rfl) ?_)
  try simp only [Act.put, List.getElem_toArray, List.getElem_cons_succ, List.getElem_cons_zero, List.setIfInBounds_toArray, List.set_cons_zero, List.set_cons_succ]
  first | (refine WkT.skip (m := 5) (k := 10) rfl (by rfl) ?_) | (refine WkT.pure (m := 5) (k := 10) (v := _) rfl (by rfl) (fun wv => by go_simp; try with_reducible rfl) ?_) | (refine WkT.step (m := 5) (k := 10) (v := _) rfl (by rfl) (by kernel_rfl) (fun wv hS => by obtain ⟨s0, s1, s2, s3, s4, s5, s6, s7, s8, s9, s10⟩ := hS; go_simp; try with_reducible rfl) ?_)
  try simp only [Act.put, List.getElem_toArray, List.getElem_cons_succ, List.getElem_cons_zero, List.setIfInBounds_toArray, List.set_cons_zero, List.set_cons_succ]
  first | (refine WkT.skip (m := 4) (k := 11) rfl (by rfl) ?_) | (refine WkT.pure (m := 4) (k := 11) (v := _) rfl (by rfl) (fun wv => by go_simp; try with_reducible rfl) ?_) | (refine WkT.step (m := 4) (k := 11) (v := _) rfl (by rfl) (by kernel_rfl) (fun wv hS => by obtain ⟨s0, s1, s2, s3, s4, s5, s6, s7, s8, s9, s10⟩ := hS; go_simp; try with_reducible rfl) ?_)
  try simp only [Act.put, List.getElem_toArray, List.getElem_cons_succ, List.getElem_cons_zero, List.setIfInBounds_toArray, List.set_cons_zero, List.set_cons_succ]
  first | (refine WkT.skip (m := 3) (k := 12) rfl (by rfl) ?_) | (refine WkT.pure (m := 3) (k := 12) (v := _) rfl (by rfl) (fun wv => by go_simp; try with_reducible rfl) ?_) | (refine WkT.step (m := 3) (k := 12) (v := _) rfl (by rfl) (by kernel_rfl) (fun wv hS => by obtain ⟨s0, s1, s2, s3, s4, s5, s6, s7, s8, s9, s10⟩ := hS; go_simp; try with_reducible rfl) ?_)
  try simp only [Act.put, List.getElem_toArray, List.getElem_cons_succ, List.getElem_cons_zero, List.setIfInBounds_toArray, List.set_cons_zero, List.set_cons_succ]
  first | (refine WkT.skip (m := 2) (k := 13) rfl (by rfl) ?_) | (refine WkT.pure (m := 2) (k := 13) (v := _) rfl (by rfl) (fun wv => by go_simp; try with_reducible rfl) ?_) | (refine WkT.step (m := 2) (k := 13) (v := _) rfl (by rfl) (by kernel_rfl) (fun wv hS => by obtain ⟨s0, s1, s2, s3, s4, s5, s6, s7, s8, s9, s10⟩ := hS; go_simp; try with_reducible rfl) ?_)
  try simp only [Act.put, List.getElem_toArray, List.getElem_cons_succ, List.getElem_cons_zero, List.setIfInBounds_toArray, List.set_cons_zero, List.set_cons_succ]
  first | (refine WkT.skip (m := 1) (k := 14) rfl (by rfl) ?_) | (refine WkT.pure (m := 1) (k := 14) (v := _) rfl (by rfl) (fun wv => by go_simp; try with_reducible rfl) ?_) | (refine WkT.step (m := 1) (k := 14) (v := _) rfl (by rfl) (by kernel_rfl) (fun wv hS => by obtain ⟨s0, s1, s2, s3, s4, s5, s6, s7, s8, s9, s10⟩ := hS; go_simp; try with_reducible rfl) ?_)
  try simp only [Act.put, List.getElem_toArray, List.getElem_cons_succ, List.getElem_cons_zero, List.setIfInBounds_toArray, List.set_cons_zero, List.set_cons_succ]
  first | (refine WkT.skip (m := 0) (k := 15) rfl (by rfl) ?_) | (refine WkT.pure (m := 0) (k := 15) (v := _) rfl (by rfl) (fun wv => by go_simp; try with_reducible rfl) ?_) | (refine WkT.step (m := 0) (k := 15) (v := _) rfl (by rfl) (by kernel_rfl) (fun wv hS => by obtain ⟨s0, s1, s2, s3, s4, s5, s6, s7, s8, s9, s10⟩ := hS; go_simp; try with_reducible rfl) ?_)
  try simp only [Act.put, List.getElem_toArray, List.getElem_cons_succ, List.getElem_cons_zero, List.setIfInBounds_toArray, List.set_cons_zero, List.set_cons_succ]
  refine WkT.done fun wE hE => ?_
  clear c0 c1 c2 c3 c4 r0 r1 r2 r3 r4
  obtain ⟨mE, c0, c1, c2, c3, c4, r0, r1, r2, r3, r4⟩ := hE
  simp only [List.drop_succ_cons, List.drop_zero]
  have fe : ∀ o, wE.frozen? ⟨w.heap.size, o, none⟩ = false := fun o => (mE.frozen (b := w.heap.size) (o := o) (by omega) (.inr (Nat.zero_le _))).trans (fr o)
  have MF := M0.trans mE
  go_wp2_with fail
  try simp only [noPan]
  try (go_wp2_with fail)
  replace r0 := World.cell?_setCell_same _ _ (.int .i64 q.nd) r0
  replace r1 := cell_set r1 ⟨w.heap.size, 0, none⟩ (.int .i64 q.nd) (.inr (by simp))
  replace r2 := cell_set r2 ⟨w.heap.size, 0, none⟩ (.int .i64 q.nd) (.inr (by simp))
  replace r3 := cell_set r3 ⟨w.heap.size, 0, none⟩ (.int .i64 q.nd) (.inr (by simp))
  replace r4 := cell_set r4 ⟨w.heap.size, 0, none⟩ (.int .i64 q.nd) (.inr (by simp))
  replace MF := MF.put ⟨w.heap.size, 0, none⟩ (.int .i64 q.nd) (show w.heap.size ≤ w.heap.size from by omega)
  replace r0 := cell_set r0 ⟨w.heap.size, 1, none⟩ (.int .i64 q.ing) (.inr (by simp))
  replace r1 := World.cell?_setCell_same _ _ (.int .i64 q.ing) r1
  replace r2 := cell_set r2 ⟨w.heap.size, 1, none⟩ (.int .i64 q.ing) (.inr (by simp))
  replace r3 := cell_set r3 ⟨w.heap.size, 1, none⟩ (.int .i64 q.ing) (.inr (by simp))
  replace r4 := cell_set r4 ⟨w.heap.size, 1, none⟩ (.int .i64 q.ing) (.inr (by simp))
  replace MF := MF.put ⟨w.heap.size, 1, none⟩ (.int .i64 q.ing) (show w.heap.size ≤ w.heap.size from by omega)
  replace r0 := cell_set r0 ⟨w.heap.size, 2, none⟩ (.int .i64 q.eg) (.inr (by simp))
  replace r1 := cell_set r1 ⟨w.heap.size, 2, none⟩ (.int .i64 q.eg) (.inr (by simp))
  replace r2 := World.cell?_setCell_same _ _ (.int .i64 q.eg) r2
  replace r3 := cell_set r3 ⟨w.heap.size, 2, none⟩ (.int .i64 q.eg) (.inr (by simp))
  replace r4 := cell_set r4 ⟨w.heap.size, 2, none⟩ (.int .i64 q.eg) (.inr (by simp))
  replace MF := MF.put ⟨w.heap.size, 2, none⟩ (.int .i64 q.eg) (show w.heap.size ≤ w.heap.size from by omega)
  replace r0 := cell_set r0 ⟨w.heap.size, 3, none⟩ (.int .i64 q.exp) (.inr (by simp))
  replace r1 := cell_set r1 ⟨w.heap.size, 3, none⟩ (.int .i64 q.exp) (.inr (by simp))
  replace r2 := cell_set r2 ⟨w.heap.size, 3, none⟩ (.int .i64 q.exp) (.inr (by simp))
  replace r3 := World.cell?_setCell_same _ _ (.int .i64 q.exp) r3
  replace r4 := cell_set r4 ⟨w.heap.size, 3, none⟩ (.int .i64 q.exp) (.inr (by simp))
  replace MF := MF.put ⟨w.heap.size, 3, none⟩ (.int .i64 q.exp) (show w.heap.size ≤ w.heap.size from by omega)
  replace r0 := cell_set r0 ⟨w.heap.size, 4, none⟩ (.int .i64 q.mac) (.inr (by simp))
  replace r1 := cell_set r1 ⟨w.heap.size, 4, none⟩ (.int .i64 q.mac) (.inr (by simp))
  replace r2 := cell_set r2 ⟨w.heap.size, 4, none⟩ (.int .i64 q.mac) (.inr (by simp))
  replace r3 := cell_set r3 ⟨w.heap.size, 4, none⟩ (.int .i64 q.mac) (.inr (by simp))
  replace r4 := World.cell?_setCell_same _ _ (.int .i64 q.mac) r4
  replace MF := MF.put ⟨w.heap.size, 4, none⟩ (.int .i64 q.mac) (show w.heap.size ≤ w.heap.size from by omega)
  generalize (((((wE.setCell ⟨w.heap.size, 0, none⟩ (.int .i64 q.nd)).setCell ⟨w.heap.size, 1, none⟩ (.int .i64 q.ing)).setCell ⟨w.heap.size, 2, none⟩ (.int .i64 q.eg)).setCell ⟨w.heap.size, 3, none⟩ (.int .i64 q.exp)).setCell ⟨w.heap.size, 4, none⟩ (.int .i64 q.mac)) = WF at *
  refine bodyPost_ret (v := .agg #[.int .i64 q.nd, .int .i64 q.ing, .int .i64 q.eg, .int .i64 q.exp, .int .i64 q.mac]) (by simp [results, Try.results95, go_sem, r0, r1, r2, r3, r4]) rfl ⟨?_, ?_⟩
  · rfl
  · exact MF

set_option maxRecDepth 100000 in
set_option maxHeartbeats 4000000 in
theorem specRdHop (a : Option Addr) (n c : Nat) (x : Int) (zs : List Int) (w : World) (h : Has .u8 w w.heap.size a n zs) (hf : ∀ z ∈ zs, (Lit.int .u8 z).wf = true) (hn : n ≤ 134217728) (hc : n ≤ c) (hx : (Lit.int .i64 x).wf = true) :
    Calls Try.prog 11 #[.slice a n c, .int .i64 x] w fun e w' => e = .returned (.tuple #[.agg #[.int .i64 (rhH (rhO zs x)).nd, .int .i64 (rhH (rhO zs x)).ing, .int .i64 (rhH (rhO zs x)).eg, .int .i64 (rhH (rhO zs x)).exp, .int .i64 (rhH (rhO zs x)).mac], .int .i64 (rhX (rhO zs x)), .bool (rhY (rhO zs x))]) ∧ Mk0 w w' := by
  have M0 := Mk.alloc w (Obj.cells #[Value.int .i64 0, Value.int .i64 0, Value.int .i64 0, Value.int .i64 0, Value.int .i64 0] 24)
  have r0 : (w.alloc (Obj.cells #[Value.int .i64 0, Value.int .i64 0, Value.int .i64 0, Value.int .i64 0, Value.int .i64 0] 24)).cell? ⟨w.heap.size, 0, none⟩ = some (.int .i64 0) := by simp [go_sem]
  have r1 : (w.alloc (Obj.cells #[Value.int .i64 0, Value.int .i64 0, Value.int .i64 0, Value.int .i64 0, Value.int .i64 0] 24)).cell? ⟨w.heap.size, 1, none⟩ = some (.int .i64 0) := by simp [go_sem]
  have r2 : (w.alloc (Obj.cells #[Value.int .i64 0, Value.int .i64 0, Value.int .i64 0, Value.int .i64 0, Value.int .i64 0] 24)).cell? ⟨w.heap.size, 2, none⟩ = some (.int .i64 0) := by simp [go_sem]
  have r3 : (w.alloc (Obj.cells #[Value.int .i64 0, Value.int .i64 0, Value.int .i64 0, Value.int .i64 0, Value.int .i64 0] 24)).cell? ⟨w.heap.size, 3, none⟩ = some (.int .i64 0) := by simp [go_sem]
  have r4 : (w.alloc (Obj.cells #[Value.int .i64 0, Value.int .i64 0, Value.int .i64 0, Value.int .i64 0, Value.int .i64 0] 24)).cell? ⟨w.heap.size, 4, none⟩ = some (.int .i64 0) := by simp [go_sem]
  have fr : ∀ o, (w.alloc (Obj.cells #[Value.int .i64 0, Value.int .i64 0, Value.int .i64 0, Value.int .i64 0, Value.int .i64 0] 24)).frozen? ⟨w.heap.size, o, none⟩ = false := fun o => by simp [go_sem]
  have hs1 : (w.alloc (Obj.cells #[Value.int .i64 0, Value.int .i64 0, Value.int .i64 0, Value.int .i64 0, Value.int .i64 0] 24)).heap.size = w.heap.size + 1 := by rw [World.size_alloc]
  have hD := specDec a n c x 5 zs (w.alloc (Obj.cells #[Value.int .i64 0, Value.int .i64 0, Value.int .i64 0, Value.int .i64 0, Value.int .i64 0] 24)) (h.next M0.below0) hf hn hx
  cases hd : dc zs x 5 with
  | none =>
    rw [hd] at hD
    simp only [dcR, dcX, dcY] at hD
    go_enter Try.func11, Try.ntmps11
    go_wp2_with fail
    generalize (w.alloc (Obj.cells #[Value.int .i64 0, Value.int .i64 0, Value.int .i64 0, Value.int .i64 0, Value.int .i64 0] 24)) = WW at *
    refine hD.mono ?_
    rintro e w2 ⟨A, N, C, rfl, hA2, hO, bb⟩
    have m2 := Mk.of_below bb
    have M2 := M0.trans m2
    replace r0 := m2.cellAt r0
    replace r1 := m2.cellAt r1
    replace r2 := m2.cellAt r2
    replace r3 := m2.cellAt r3
    replace r4 := m2.cellAt r4
    replace fr := fun o => (m2.frozen (b := w.heap.size) (o := o) (by omega) (.inr (Nat.zero_le _))).trans (fr o)
    have hws : w.heap.size < w2.heap.size := by have := m2.size; omega
    go_wp2_with fail
    replace r0 := World.cell?_setCell_same _ _ (.int .i64 0) r0
    replace r1 := cell_set r1 ⟨w.heap.size, 0, none⟩ (.int .i64 0) (.inr (by simp))
    replace r2 := cell_set r2 ⟨w.heap.size, 0, none⟩ (.int .i64 0) (.inr (by simp))
    replace r3 := cell_set r3 ⟨w.heap.size, 0, none⟩ (.int .i64 0) (.inr (by simp))
    replace r4 := cell_set r4 ⟨w.heap.size, 0, none⟩ (.int .i64 0) (.inr (by simp))
    replace M2 := M2.put ⟨w.heap.size, 0, none⟩ (.int .i64 0) (show w.heap.size ≤ w.heap.size from by omega)
    replace r0 := cell_set r0 ⟨w.heap.size, 1, none⟩ (.int .i64 0) (.inr (by simp))
    replace r1 := World.cell?_setCell_same _ _ (.int .i64 0) r1
    replace r2 := cell_set r2 ⟨w.heap.size, 1, none⟩ (.int .i64 0) (.inr (by simp))
    replace r3 := cell_set r3 ⟨w.heap.size, 1, none⟩ (.int .i64 0) (.inr (by simp))
    replace r4 := cell_set r4 ⟨w.heap.size, 1, none⟩ (.int .i64 0) (.inr (by simp))
    replace M2 := M2.put ⟨w.heap.size, 1, none⟩ (.int .i64 0) (show w.heap.size ≤ w.heap.size from by omega)
    replace r0 := cell_set r0 ⟨w.heap.size, 2, none⟩ (.int .i64 0) (.inr (by simp))
    replace r1 := cell_set r1 ⟨w.heap.size, 2, none⟩ (.int .i64 0) (.inr (by simp))
    replace r2 := World.cell?_setCell_same _ _ (.int .i64 0) r2
    replace r3 := cell_set r3 ⟨w.heap.size, 2, none⟩ (.int .i64 0) (.inr (by simp))
    replace r4 := cell_set r4 ⟨w.heap.size, 2, none⟩ (.int .i64 0) (.inr (by simp))
    replace M2 := M2.put ⟨w.heap.size, 2, none⟩ (.int .i64 0) (show w.heap.size ≤ w.heap.size from by omega)
    replace r0 := cell_set r0 ⟨w.heap.size, 3, none⟩ (.int .i64 0) (.inr (by simp))
    replace r1 := cell_set r1 ⟨w.heap.size, 3, none⟩ (.int .i64 0) (.inr (by simp))
    replace r2 := cell_set r2 ⟨w.heap.size, 3, none⟩ (.int .i64 0) (.inr (by simp))
    replace r3 := World.cell?_setCell_same _ _ (.int .i64 0) r3
    replace r4 := cell_set r4 ⟨w.heap.size, 3, none⟩ (.int .i64 0) (.inr (by simp))
    replace M2 := M2.put ⟨w.heap.size, 3, none⟩ (.int .i64 0) (show w.heap.size ≤ w.heap.size from by omega)
    replace r0 := cell_set r0 ⟨w.heap.size, 4, none⟩ (.int .i64 0) (.inr (by simp))
    replace r1 := cell_set r1 ⟨w.heap.size, 4, none⟩ (.int .i64 0) (.inr (by simp))
    replace r2 := cell_set r2 ⟨w.heap.size, 4, none⟩ (.int .i64 0) (.inr (by simp))
    replace r3 := cell_set r3 ⟨w.heap.size, 4, none⟩ (.int .i64 0) (.inr (by simp))
    replace r4 := World.cell?_setCell_same _ _ (.int .i64 0) r4
    replace M2 := M2.put ⟨w.heap.size, 4, none⟩ (.int .i64 0) (show w.heap.size ≤ w.heap.size from by omega)
    generalize (((((w2.setCell ⟨w.heap.size, 0, none⟩ (.int .i64 0)).setCell ⟨w.heap.size, 1, none⟩ (.int .i64 0)).setCell ⟨w.heap.size, 2, none⟩ (.int .i64 0)).setCell ⟨w.heap.size, 3, none⟩ (.int .i64 0)).setCell ⟨w.heap.size, 4, none⟩ (.int .i64 0)) = WF at *
    refine bodyPost_ret (v := .tuple #[.agg #[.int .i64 0, .int .i64 0, .int .i64 0, .int .i64 0, .int .i64 0], .int .i64 0, .bool false]) (by simp [results, Try.results11, go_sem, r0, r1, r2, r3, r4]) rfl ⟨?_, ?_⟩
    · rw [rhO_none hd]; rfl
    · exact M2
  | some p =>
    rw [hd] at hD
    obtain ⟨l, m⟩ := p
    have hl5 := dc_len hd
    simp only [dcR, dcX, dcY] at hD
    go_enter Try.func11, Try.ntmps11
    go_wp2_with fail
    generalize (w.alloc (Obj.cells #[Value.int .i64 0, Value.int .i64 0, Value.int .i64 0, Value.int .i64 0, Value.int .i64 0] 24)) = WW at *
    refine hD.mono ?_
    rintro e w2 ⟨A, N, C, rfl, hA2, hO, bb⟩
    obtain rfl : N = 5 := hO.1.symm.trans hl5
    have m2 := Mk.of_below bb
    have M2 := M0.trans m2
    replace r0 := m2.cellAt r0
    replace r1 := m2.cellAt r1
    replace r2 := m2.cellAt r2
    replace r3 := m2.cellAt r3
    replace r4 := m2.cellAt r4
    replace fr := fun o => (m2.frozen (b := w.heap.size) (o := o) (by omega) (.inr (Nat.zero_le _))).trans (fr o)
    have hws : w.heap.size < w2.heap.size := by have := m2.size; omega
    skip
    obtain ⟨b, off, rfl, hb, hc'⟩ := hO.has.2 (by omega)
    obtain ⟨q, hq⟩ : ∃ q, Hid (q = hopL5 l) := ⟨_, Lib.hid rfl⟩
    have c0 : w2.cell? ⟨b, off, none⟩ = some (.int .i64 q.nd) := by rw [hq.out]; exact hc' 0 (by omega)
    have c1 : w2.cell? ⟨b, off + 1, none⟩ = some (.int .i64 q.ing) := by rw [hq.out]; exact hc' 1 (by omega)
    have c2 : w2.cell? ⟨b, off + 2, none⟩ = some (.int .i64 q.eg) := by rw [hq.out]; exact hc' 2 (by omega)
    have c3 : w2.cell? ⟨b, off + 3, none⟩ = some (.int .i64 q.exp) := by rw [hq.out]; exact hc' 3 (by omega)
    have c4 : w2.cell? ⟨b, off + 4, none⟩ = some (.int .i64 q.mac) := by rw [hq.out]; exact hc' 4 (by omega)
    clear hc'
    have j0 : (0 : Int) < ((5 : Nat) : Int) := by omega
    have j1 : (1 : Int) < ((5 : Nat) : Int) := by omega
    have j2 : (2 : Int) < ((5 : Nat) : Int) := by omega
    have j3 : (3 : Int) < ((5 : Nat) : Int) := by omega
    have j4 : (4 : Int) < ((5 : Nat) : Int) := by omega
    go_wp2_with fail
    refine wp_region_wks (fun w' => Mk0 w2 w' ∧ w'.cell? ⟨b, off, none⟩ = some (.int .i64 q.nd) ∧ w'.cell? ⟨b, off + 1, none⟩ = some (.int .i64 q.ing) ∧ w'.cell? ⟨b, off + 2, none⟩ = some (.int .i64 q.eg) ∧ w'.cell? ⟨b, off + 3, none⟩ = some (.int .i64 q.exp) ∧ w'.cell? ⟨b, off + 4, none⟩ = some (.int .i64 q.mac) ∧ w'.cell? ⟨w.heap.size, 0, none⟩ = some (.int .i64 0) ∧ w'.cell? ⟨w.heap.size, 1, none⟩ = some (.int .i64 0) ∧ w'.cell? ⟨w.heap.size, 2, none⟩ = some (.int .i64 0) ∧ w'.cell? ⟨w.heap.size, 3, none⟩ = some (.int .i64 0) ∧ w'.cell? ⟨w.heap.size, 4, none⟩ = some (.int .i64 0)) 16 17 (by kernel_rfl) (by kernel_rfl) (by kernel_rfl) (by decide) (by decide) (⟨Mk.drew1 _, c0, c1, c2, c3, c4, r0, r1, r2, r3, r4⟩) ?_
    change WkS _ _ _ _ _ _ 16 0 _
    first | (refine WkS.skip (m := 15) (k := 0) rfl (by rfl) ?_) | (refine WkS.pure (m := 15) (k := 0) (v := _) rfl (by rfl) (fun wv => by go_simp; try with_reducible rfl) ?_) | (refine WkS.step (m := 15) (k := 0) (v := _) rfl (by rfl) (by kernel_rfl) (fun wv hS => by obtain ⟨s0, s1, s2, s3, s4, s5, s6, s7, s8, s9, s10⟩ := hS; go_simp; try with_reducible rfl) ?_)
    try simp only [Act.put, List.getElem_toArray, List.getElem_cons_zero, List.setIfInBounds_toArray, List.set_cons_zero, List.set_cons_succ]
    first | (refine WkS.skip (m := 14) (k := 1) rfl (by rfl) ?_) | (refine WkS.pure (m := 14) (k := 1) (v := _) rfl (by rfl) (fun wv => by go_simp; try with_reducible rfl) ?_) | (refine WkS.step (m := 14) (k := 1) (v := _) rfl (by rfl) (by kernel_rfl) (fun wv hS => by obtain ⟨s0, s1, s2, s3, s4, s5, s6, s7, s8, s9, s10⟩ := hS; go_simp; try with_reducible rfl) ?_)
    try simp only [Act.put, List.getElem_toArray, List.getElem_cons_succ, List.getElem_cons_zero, List.setIfInBounds_toArray, List.set_cons_zero, List.set_cons_succ]
    first | (refine WkS.skip (m := 13) (k := 2) rfl (by rfl) ?_) | (refine WkS.pure (m := 13) (k := 2) (v := _) rfl (by rfl) (fun wv => by go_simp; try with_reducible rfl) ?_) | (refine WkS.step (m := 13) (k := 2) (v := _) rfl (by rfl) (by kernel_rfl) (fun wv hS => by obtain ⟨s0, s1, s2, s3, s4, s5, s6, s7, s8, s9, s10⟩ := hS; go_simp; try with_reducible rfl) ?_)
    try simp only [Act.put, List.getElem_toArray, List.getElem_cons_succ, List.getElem_cons_zero, List.setIfInBounds_toArray, List.set_cons_zero, List.set_cons_succ]
    first | (refine WkS.skip (m := 12) (k := 3) rfl (by rfl) ?_) | (refine WkS.pure (m := 12) (k := 3) (v := _) rfl (by rfl) (fun wv => by go_simp; try with_reducible rfl) ?_) | (refine WkS.step (m := 12) (k := 3) (v := _) rfl (by rfl) (by kernel_rfl) (fun wv hS => by obtain ⟨s0, s1, s2, s3, s4, s5, s6, s7, s8, s9, s10⟩ := hS; go_simp; try with_reducible rfl) ?_)
    try simp only [Act.put, List.getElem_toArray, List.getElem_cons_succ, List.getElem_cons_zero, List.setIfInBounds_toArray, List.set_cons_zero, List.set_cons_succ]
    first | (refine WkS.skip (m := 11) (k := 4) rfl (by rfl) ?_) | (refine WkS.pure (m := 11) (k := 4) (v := _) rfl (by rfl) (fun wv => by go_simp; try with_reducible rfl) ?_) | (refine WkS.step (m := 11) (k := 4) (v := _) rfl (by rfl) (by kernel_rfl) (fun wv hS => by obtain ⟨s0, s1, s2, s3, s4, s5, s6, s7, s8, s9, s10⟩ := hS; go_simp; try with_reducible rfl) ?_)
    try simp only [Act.put, List.getElem_toArray, List.getElem_cons_succ, List.getElem_cons_zero, List.setIfInBounds_toArray, List.set_cons_zero, List.set_cons_succ]
    first | (refine WkS.skip (m := 10) (k := 5) rfl (by rfl) ?_) | (refine WkS.pure (m := 10) (k := 5) (v := _) rfl (by rfl) (fun wv => by go_simp; try with_reducible rfl) ?_) | (refine WkS.step (m := 10) (k := 5) (v := _) rfl (by rfl) (by kernel_rfl) (fun wv hS => by obtain ⟨s0, s1, s2, s3, s4, s5, s6, s7, s8, s9, s10⟩ := hS; go_simp; try with_reducible rfl) ?_)
    try simp only [Act.put, List.getElem_toArray, List.getElem_cons_succ, List.getElem_cons_zero, List.setIfInBounds_toArray, List.set_cons_zero, List.set_cons_succ]
    first | (refine WkS.skip (m := 9) (k := 6) rfl (by rfl) ?_) | (refine WkS.pure (m := 9) (k := 6) (v := _) rfl (by rfl) (fun wv => by go_simp; try with_reducible rfl) ?_) | (refine WkS.step (m := 9) (k := 6) (v := _) rfl (by rfl) (by kernel_rfl) (fun wv hS => by obtain ⟨s0, s1, s2, s3, s4, s5, s6, s7, s8, s9, s10⟩ := hS; go_simp; try with_reducible rfl) ?_)
    try simp only [Act.put, List.getElem_toArray, List.getElem_cons_succ, List.getElem_cons_zero, List.setIfInBounds_toArray, List.set_cons_zero, List.set_cons_succ]
    first | (refine WkS.skip (m := 8) (k := 7) rfl (by rfl) ?_) | (refine WkS.pure (m := 8) (k := 7) (v := _) rfl (by rfl) (fun wv => by go_simp; try with_reducible rfl) ?_) | (refine WkS.step (m := 8) (k := 7) (v := _) rfl (by rfl) (by kernel_rfl) (fun wv hS => by obtain ⟨s0, s1, s2, s3, s4, s5, s6, s7, s8, s9, s10⟩ := hS; go_simp; try with_reducible rfl) ?_)
    try simp only [Act.put, List.getElem_toArray, List.getElem_cons_succ, List.getElem_cons_zero, List.setIfInBounds_toArray, List.set_cons_zero, List.set_cons_succ]
    first | (refine WkS.skip (m := 7) (k := 8) rfl (by rfl) ?_) | (refine WkS.pure (m := 7) (k := 8) (v := _) rfl (by rfl) (fun wv => by go_simp; try with_reducible rfl) ?_) | (refine WkS.step (m := 7) (k := 8) (v := _) rfl (by rfl) (by kernel_rfl) (fun wv hS => by obtain ⟨s0, s1, s2, s3, s4, s5, s6, s7, s8, s9, s10⟩ := hS; go_simp; try with_reducible rfl) ?_)
    try simp only [Act.put, List.getElem_toArray, List.getElem_cons_succ, List.getElem_cons_zero, List.setIfInBounds_toArray, List.set_cons_zero, List.set_cons_succ]
    first | (refine WkS.skip (m := 6) (k := 9) rfl (by rfl) ?_) | (refine WkS.pure (m := 6) (k := 9) (v := _) rfl (by rfl) (fun wv => by go_simp; try with_reducible rfl) ?_) | (refine WkS.step (m := 6) (k := 9) (v := _) rfl (by rfl) (by kernel_rfl) (fun wv hS => by obtain ⟨s0, s1, s2, s3, s4, s5, s6, s7, s8, s9, s10⟩ := hS; go_simp; try with_reducible rfl) ?_)
    try simp only [Act.put, List.getElem_toArray, List.getElem_cons_succ, List.getElem_cons_zero, List.setIfInBounds_toArray, List.set_cons_zero, List.set_cons_succ]
    first | (refine WkS.skip (m := 5) (k := 10) rfl (by rfl) ?_) | (refine WkS.pure (m := 5) (k := 10) (v := _) rfl (by rfl) (fun wv => by go_simp; try with_reducible rfl) ?_) | (refine WkS.step (m := 5) (k := 10) (v := _) rfl (by rfl) (by kernel_rfl) (fun wv hS => by obtain ⟨s0, s1, s2, s3, s4, s5, s6, s7, s8, s9, s10⟩ := hS; go_simp; try with_reducible rfl) ?_)
    try simp only [Act.put, List.getElem_toArray, List.getElem_cons_succ, List.getElem_cons_zero, List.setIfInBounds_toArray, List.set_cons_zero, List.set_cons_succ]
    first | (refine WkS.skip (m := 4) (k := 11) rfl (by rfl) ?_) | (refine WkS.pure (m := 4) (k := 11) (v := _) rfl (by rfl) (fun wv => by go_simp; try with_reducible rfl) ?_) | (refine WkS.step (m := 4) (k := 11) (v := _) rfl (by rfl) (by kernel_rfl) (fun wv hS => by obtain ⟨s0, s1, s2, s3, s4, s5, s6, s7, s8, s9, s10⟩ := hS; go_simp; try with_reducible rfl) ?_)
    try simp only [Act.put, List.getElem_toArray, List.getElem_cons_succ, List.getElem_cons_zero, List.setIfInBounds_toArray, List.set_cons_zero, List.set_cons_succ]
    first | (refine WkS.skip (m := 3) (k := 12) rfl (by rfl) ?_) | (refine WkS.pure (m := 3) (k := 12) (v := _) rfl (by rfl) (fun wv => by go_simp; try with_reducible rfl) ?_) | (refine WkS.step (m := 3) (k := 12) (v := _) rfl (by rfl) (by kernel_rfl) (fun wv hS => by obtain ⟨s0, s1, s2, s3, s4, s5, s6, s7, s8, s9, s10⟩ := hS; go_simp; try with_reducible rfl) ?_)
    try simp only [Act.put, List.getElem_toArray, List.getElem_cons_succ, List.getElem_cons_zero, List.setIfInBounds_toArray, List.set_cons_zero, List.set_cons_succ]
    first | (refine WkS.skip (m := 2) (k := 13) rfl (by rfl) ?_) | (refine WkS.pure (m := 2) (k := 13) (v := _) rfl (by rfl) (fun wv => by go_simp; try with_reducible rfl) ?_) | (refine WkS.step (m := 2) (k := 13) (v := _) rfl (by rfl) (by kernel_rfl) (fun wv hS => by obtain ⟨s0, s1, s2, s3, s4, s5, s6, s7, s8, s9, s10⟩ := hS; go_simp; try with_reducible rfl) ?_)
    try simp only [Act.put, List.getElem_toArray, List.getElem_cons_succ, List.getElem_cons_zero, List.setIfInBounds_toArray, List.set_cons_zero, List.set_cons_succ]
    first | (refine WkS.skip (m := 1) (k := 14) rfl (by rfl) ?_) | (refine WkS.pure (m := 1) (k := 14) (v := _) rfl (by rfl) (fun wv => by go_simp; try with_reducible rfl) ?_) | (refine WkS.step (m := 1) (k := 14) (v := _) rfl (by rfl) (by kernel_rfl) (fun wv hS => by obtain ⟨s0, s1, s2, s3, s4, s5, s6, s7, s8, s9, s10⟩ := hS; go_simp; try with_reducible rfl) ?_)
    try simp only [Act.put, List.getElem_toArray, List.getElem_cons_succ, List.getElem_cons_zero, List.setIfInBounds_toArray, List.set_cons_zero, List.set_cons_succ]
    first | (refine WkS.skip (m := 0) (k := 15) rfl (by rfl) ?_) | (refine WkS.pure (m := 0) (k := 15) (v := _) rfl (by rfl) (fun wv => by go_simp; try with_reducible rfl) ?_) | (refine WkS.step (m := 0) (k := 15) (v := _) rfl (by rfl) (by kernel_rfl) (fun wv hS => by obtain ⟨s0, s1, s2, s3, s4, s5, s6, s7, s8, s9, s10⟩ := hS; go_simp; try with_reducible rfl) ?_)
    try simp only [Act.put, List.getElem_toArray, List.getElem_cons_succ, List.getElem_cons_zero, List.setIfInBounds_toArray, List.set_cons_zero, List.set_cons_succ]
    refine WkS.done fun wE hE => ?_
    clear c0 c1 c2 c3 c4 r0 r1 r2 r3 r4
    obtain ⟨mE, c0, c1, c2, c3, c4, r0, r1, r2, r3, r4⟩ := hE
    have zE0 := mE.size
    change wpSoft _ _ _ _ 17 1 _ _
    refine wpSoft.value (n := 0) (w1 := (wE.alloc (Obj.cells #[Value.int .i64 0, Value.int .i64 0, Value.int .i64 0, Value.int .i64 0, Value.int .i64 0] 24))) _ rfl (by rfl) (by go_simp; first | done | exact ⟨rfl, rfl⟩ | with_reducible rfl) ⟨mE.trans (Mk.alloc wE (Obj.cells #[Value.int .i64 0, Value.int .i64 0, Value.int .i64 0, Value.int .i64 0, Value.int .i64 0] 24)), (Mk.alloc wE (Obj.cells #[Value.int .i64 0, Value.int .i64 0, Value.int .i64 0, Value.int .i64 0, Value.int .i64 0] 24)).cellAt c0, (Mk.alloc wE (Obj.cells #[Value.int .i64 0, Value.int .i64 0, Value.int .i64 0, Value.int .i64 0, Value.int .i64 0] 24)).cellAt c1, (Mk.alloc wE (Obj.cells #[Value.int .i64 0, Value.int .i64 0, Value.int .i64 0, Value.int .i64 0, Value.int .i64 0] 24)).cellAt c2, (Mk.alloc wE (Obj.cells #[Value.int .i64 0, Value.int .i64 0, Value.int .i64 0, Value.int .i64 0, Value.int .i64 0] 24)).cellAt c3, (Mk.alloc wE (Obj.cells #[Value.int .i64 0, Value.int .i64 0, Value.int .i64 0, Value.int .i64 0, Value.int .i64 0] 24)).cellAt c4, (Mk.alloc wE (Obj.cells #[Value.int .i64 0, Value.int .i64 0, Value.int .i64 0, Value.int .i64 0, Value.int .i64 0] 24)).cellAt r0, (Mk.alloc wE (Obj.cells #[Value.int .i64 0, Value.int .i64 0, Value.int .i64 0, Value.int .i64 0, Value.int .i64 0] 24)).cellAt r1, (Mk.alloc wE (Obj.cells #[Value.int .i64 0, Value.int .i64 0, Value.int .i64 0, Value.int .i64 0, Value.int .i64 0] 24)).cellAt r2, (Mk.alloc wE (Obj.cells #[Value.int .i64 0, Value.int .i64 0, Value.int .i64 0, Value.int .i64 0, Value.int .i64 0] 24)).cellAt r3, (Mk.alloc wE (Obj.cells #[Value.int .i64 0, Value.int .i64 0, Value.int .i64 0, Value.int .i64 0, Value.int .i64 0] 24)).cellAt r4⟩ ?_
    have t0 : (wE.alloc (Obj.cells #[Value.int .i64 0, Value.int .i64 0, Value.int .i64 0, Value.int .i64 0, Value.int .i64 0] 24)).cell? ⟨wE.heap.size, 0, none⟩ = some (.int .i64 0) := by simp [go_sem]
    have t1 : (wE.alloc (Obj.cells #[Value.int .i64 0, Value.int .i64 0, Value.int .i64 0, Value.int .i64 0, Value.int .i64 0] 24)).cell? ⟨wE.heap.size, 1, none⟩ = some (.int .i64 0) := by simp [go_sem]
    have t2 : (wE.alloc (Obj.cells #[Value.int .i64 0, Value.int .i64 0, Value.int .i64 0, Value.int .i64 0, Value.int .i64 0] 24)).cell? ⟨wE.heap.size, 2, none⟩ = some (.int .i64 0) := by simp [go_sem]
    have t3 : (wE.alloc (Obj.cells #[Value.int .i64 0, Value.int .i64 0, Value.int .i64 0, Value.int .i64 0, Value.int .i64 0] 24)).cell? ⟨wE.heap.size, 3, none⟩ = some (.int .i64 0) := by simp [go_sem]
    have t4 : (wE.alloc (Obj.cells #[Value.int .i64 0, Value.int .i64 0, Value.int .i64 0, Value.int .i64 0, Value.int .i64 0] 24)).cell? ⟨wE.heap.size, 4, none⟩ = some (.int .i64 0) := by simp [go_sem]
    have ft : ∀ o, (wE.alloc (Obj.cells #[Value.int .i64 0, Value.int .i64 0, Value.int .i64 0, Value.int .i64 0, Value.int .i64 0] 24)).frozen? ⟨wE.heap.size, o, none⟩ = false := fun o => by simp [go_sem]
    intro wG0 mG0 hG0
    clear mE c0 c1 c2 c3 c4 r0 r1 r2 r3 r4
    obtain ⟨mE, c0, c1, c2, c3, c4, r0, r1, r2, r3, r4⟩ := hG0
    replace t0 := mG0.cellAt t0
    replace t1 := mG0.cellAt t1
    replace t2 := mG0.cellAt t2
    replace t3 := mG0.cellAt t3
    replace t4 := mG0.cellAt t4
    replace ft := fun o => (mG0.frozen (b := wE.heap.size) (o := o) (by rw [World.size_alloc]; omega) (.inr (Nat.zero_le _))).trans (ft o)
    have zG := mG0.size
    rw [World.size_alloc] at zG
    try simp only [Act.put, List.getElem_toArray, List.getElem_cons_succ, List.getElem_cons_zero, List.setIfInBounds_toArray, List.set_cons_zero, List.set_cons_succ]
    refine wpSoft.done ?_
    simp only [List.drop_succ_cons, List.drop_zero]
    have ME := M2.trans mE
    have hwe : w.heap.size < wE.heap.size := by omega
    have fe : ∀ o, wG0.frozen? ⟨w.heap.size, o, none⟩ = false := fun o => (mE.frozen (b := w.heap.size) (o := o) (by omega) (.inr (Nat.zero_le _))).trans (fr o)
    go_wp2_with fail
    try simp only [noPan]
    try (go_wp2_with fail)
    replace t0 := World.cell?_setCell_same _ _ (.int .i64 q.nd) t0
    replace t1 := cell_set t1 ⟨wE.heap.size, 0, none⟩ (.int .i64 q.nd) (.inr (by simp))
    replace t2 := cell_set t2 ⟨wE.heap.size, 0, none⟩ (.int .i64 q.nd) (.inr (by simp))
    replace t3 := cell_set t3 ⟨wE.heap.size, 0, none⟩ (.int .i64 q.nd) (.inr (by simp))
    replace t4 := cell_set t4 ⟨wE.heap.size, 0, none⟩ (.int .i64 q.nd) (.inr (by simp))
    replace r0 := cell_set r0 ⟨wE.heap.size, 0, none⟩ (.int .i64 q.nd) (.inl (show wE.heap.size ≠ w.heap.size from by omega))
    replace r1 := cell_set r1 ⟨wE.heap.size, 0, none⟩ (.int .i64 q.nd) (.inl (show wE.heap.size ≠ w.heap.size from by omega))
    replace r2 := cell_set r2 ⟨wE.heap.size, 0, none⟩ (.int .i64 q.nd) (.inl (show wE.heap.size ≠ w.heap.size from by omega))
    replace r3 := cell_set r3 ⟨wE.heap.size, 0, none⟩ (.int .i64 q.nd) (.inl (show wE.heap.size ≠ w.heap.size from by omega))
    replace r4 := cell_set r4 ⟨wE.heap.size, 0, none⟩ (.int .i64 q.nd) (.inl (show wE.heap.size ≠ w.heap.size from by omega))
    replace fe := fun o => frozen_set (fe o) ⟨wE.heap.size, 0, none⟩ (.int .i64 q.nd)
    replace ME := ME.put ⟨wE.heap.size, 0, none⟩ (.int .i64 q.nd) (show w.heap.size ≤ wE.heap.size from by omega)
    replace t0 := cell_set t0 ⟨wE.heap.size, 1, none⟩ (.int .i64 q.ing) (.inr (by simp))
    replace t1 := World.cell?_setCell_same _ _ (.int .i64 q.ing) t1
    replace t2 := cell_set t2 ⟨wE.heap.size, 1, none⟩ (.int .i64 q.ing) (.inr (by simp))
    replace t3 := cell_set t3 ⟨wE.heap.size, 1, none⟩ (.int .i64 q.ing) (.inr (by simp))
    replace t4 := cell_set t4 ⟨wE.heap.size, 1, none⟩ (.int .i64 q.ing) (.inr (by simp))
    replace r0 := cell_set r0 ⟨wE.heap.size, 1, none⟩ (.int .i64 q.ing) (.inl (show wE.heap.size ≠ w.heap.size from by omega))
    replace r1 := cell_set r1 ⟨wE.heap.size, 1, none⟩ (.int .i64 q.ing) (.inl (show wE.heap.size ≠ w.heap.size from by omega))
    replace r2 := cell_set r2 ⟨wE.heap.size, 1, none⟩ (.int .i64 q.ing) (.inl (show wE.heap.size ≠ w.heap.size from by omega))
    replace r3 := cell_set r3 ⟨wE.heap.size, 1, none⟩ (.int .i64 q.ing) (.inl (show wE.heap.size ≠ w.heap.size from by omega))
    replace r4 := cell_set r4 ⟨wE.heap.size, 1, none⟩ (.int .i64 q.ing) (.inl (show wE.heap.size ≠ w.heap.size from by omega))
    replace fe := fun o => frozen_set (fe o) ⟨wE.heap.size, 1, none⟩ (.int .i64 q.ing)
    replace ME := ME.put ⟨wE.heap.size, 1, none⟩ (.int .i64 q.ing) (show w.heap.size ≤ wE.heap.size from by omega)
    replace t0 := cell_set t0 ⟨wE.heap.size, 2, none⟩ (.int .i64 q.eg) (.inr (by simp))
    replace t1 := cell_set t1 ⟨wE.heap.size, 2, none⟩ (.int .i64 q.eg) (.inr (by simp))
    replace t2 := World.cell?_setCell_same _ _ (.int .i64 q.eg) t2
    replace t3 := cell_set t3 ⟨wE.heap.size, 2, none⟩ (.int .i64 q.eg) (.inr (by simp))
    replace t4 := cell_set t4 ⟨wE.heap.size, 2, none⟩ (.int .i64 q.eg) (.inr (by simp))
    replace r0 := cell_set r0 ⟨wE.heap.size, 2, none⟩ (.int .i64 q.eg) (.inl (show wE.heap.size ≠ w.heap.size from by omega))
    replace r1 := cell_set r1 ⟨wE.heap.size, 2, none⟩ (.int .i64 q.eg) (.inl (show wE.heap.size ≠ w.heap.size from by omega))
    replace r2 := cell_set r2 ⟨wE.heap.size, 2, none⟩ (.int .i64 q.eg) (.inl (show wE.heap.size ≠ w.heap.size from by omega))
    replace r3 := cell_set r3 ⟨wE.heap.size, 2, none⟩ (.int .i64 q.eg) (.inl (show wE.heap.size ≠ w.heap.size from by omega))
    replace r4 := cell_set r4 ⟨wE.heap.size, 2, none⟩ (.int .i64 q.eg) (.inl (show wE.heap.size ≠ w.heap.size from by omega))
    replace fe := fun o => frozen_set (fe o) ⟨wE.heap.size, 2, none⟩ (.int .i64 q.eg)
    replace ME := ME.put ⟨wE.heap.size, 2, none⟩ (.int .i64 q.eg) (show w.heap.size ≤ wE.heap.size from by omega)
    replace t0 := cell_set t0 ⟨wE.heap.size, 3, none⟩ (.int .i64 q.exp) (.inr (by simp))
    replace t1 := cell_set t1 ⟨wE.heap.size, 3, none⟩ (.int .i64 q.exp) (.inr (by simp))
    replace t2 := cell_set t2 ⟨wE.heap.size, 3, none⟩ (.int .i64 q.exp) (.inr (by simp))
    replace t3 := World.cell?_setCell_same _ _ (.int .i64 q.exp) t3
    replace t4 := cell_set t4 ⟨wE.heap.size, 3, none⟩ (.int .i64 q.exp) (.inr (by simp))
    replace r0 := cell_set r0 ⟨wE.heap.size, 3, none⟩ (.int .i64 q.exp) (.inl (show wE.heap.size ≠ w.heap.size from by omega))
    replace r1 := cell_set r1 ⟨wE.heap.size, 3, none⟩ (.int .i64 q.exp) (.inl (show wE.heap.size ≠ w.heap.size from by omega))
    replace r2 := cell_set r2 ⟨wE.heap.size, 3, none⟩ (.int .i64 q.exp) (.inl (show wE.heap.size ≠ w.heap.size from by omega))
    replace r3 := cell_set r3 ⟨wE.heap.size, 3, none⟩ (.int .i64 q.exp) (.inl (show wE.heap.size ≠ w.heap.size from by omega))
    replace r4 := cell_set r4 ⟨wE.heap.size, 3, none⟩ (.int .i64 q.exp) (.inl (show wE.heap.size ≠ w.heap.size from by omega))
    replace fe := fun o => frozen_set (fe o) ⟨wE.heap.size, 3, none⟩ (.int .i64 q.exp)
    replace ME := ME.put ⟨wE.heap.size, 3, none⟩ (.int .i64 q.exp) (show w.heap.size ≤ wE.heap.size from by omega)
    replace t0 := cell_set t0 ⟨wE.heap.size, 4, none⟩ (.int .i64 q.mac) (.inr (by simp))
    replace t1 := cell_set t1 ⟨wE.heap.size, 4, none⟩ (.int .i64 q.mac) (.inr (by simp))
    replace t2 := cell_set t2 ⟨wE.heap.size, 4, none⟩ (.int .i64 q.mac) (.inr (by simp))
    replace t3 := cell_set t3 ⟨wE.heap.size, 4, none⟩ (.int .i64 q.mac) (.inr (by simp))
    replace t4 := World.cell?_setCell_same _ _ (.int .i64 q.mac) t4
    replace r0 := cell_set r0 ⟨wE.heap.size, 4, none⟩ (.int .i64 q.mac) (.inl (show wE.heap.size ≠ w.heap.size from by omega))
    replace r1 := cell_set r1 ⟨wE.heap.size, 4, none⟩ (.int .i64 q.mac) (.inl (show wE.heap.size ≠ w.heap.size from by omega))
    replace r2 := cell_set r2 ⟨wE.heap.size, 4, none⟩ (.int .i64 q.mac) (.inl (show wE.heap.size ≠ w.heap.size from by omega))
    replace r3 := cell_set r3 ⟨wE.heap.size, 4, none⟩ (.int .i64 q.mac) (.inl (show wE.heap.size ≠ w.heap.size from by omega))
    replace r4 := cell_set r4 ⟨wE.heap.size, 4, none⟩ (.int .i64 q.mac) (.inl (show wE.heap.size ≠ w.heap.size from by omega))
    replace fe := fun o => frozen_set (fe o) ⟨wE.heap.size, 4, none⟩ (.int .i64 q.mac)
    replace ME := ME.put ⟨wE.heap.size, 4, none⟩ (.int .i64 q.mac) (show w.heap.size ≤ wE.heap.size from by omega)
    have hsz : (((((wG0.setCell ⟨wE.heap.size, 0, none⟩ (.int .i64 q.nd)).setCell ⟨wE.heap.size, 1, none⟩ (.int .i64 q.ing)).setCell ⟨wE.heap.size, 2, none⟩ (.int .i64 q.eg)).setCell ⟨wE.heap.size, 3, none⟩ (.int .i64 q.exp)).setCell ⟨wE.heap.size, 4, none⟩ (.int .i64 q.mac)).heap.size = wG0.heap.size := by simp only [World.size_set]
    generalize (((((wG0.setCell ⟨wE.heap.size, 0, none⟩ (.int .i64 q.nd)).setCell ⟨wE.heap.size, 1, none⟩ (.int .i64 q.ing)).setCell ⟨wE.heap.size, 2, none⟩ (.int .i64 q.eg)).setCell ⟨wE.heap.size, 3, none⟩ (.int .i64 q.exp)).setCell ⟨wE.heap.size, 4, none⟩ (.int .i64 q.mac)) = wL at *
    clear fr
    refine (specVHop q.nd q.ing q.eg q.exp q.mac _).mono ?_
    rintro e w4 ⟨he, m4⟩
    replace ME := ME.trans m4
    replace r0 := m4.cellAt r0
    replace r1 := m4.cellAt r1
    replace r2 := m4.cellAt r2
    replace r3 := m4.cellAt r3
    replace r4 := m4.cellAt r4
    replace t0 := m4.cellAt t0
    replace t1 := m4.cellAt t1
    replace t2 := m4.cellAt t2
    replace t3 := m4.cellAt t3
    replace t4 := m4.cellAt t4
    replace fe := fun o => (m4.frozen (b := w.heap.size) (o := o) (by omega) (.inr (Nat.zero_le _))).trans (fe o)
    have hz4 := m4.size
    cases hk : hopOk ⟨q.nd, q.ing, q.eg, q.exp, q.mac⟩
    · rw [hk] at he
      subst he
      have HR := Lib.hid (rhO_no hd (by rw [← hq.out]; exact hk))
      clear hk
      go_wp2_with fail
      replace r0 := World.cell?_setCell_same _ _ (.int .i64 0) r0
      replace r1 := cell_set r1 ⟨w.heap.size, 0, none⟩ (.int .i64 0) (.inr (by simp))
      replace r2 := cell_set r2 ⟨w.heap.size, 0, none⟩ (.int .i64 0) (.inr (by simp))
      replace r3 := cell_set r3 ⟨w.heap.size, 0, none⟩ (.int .i64 0) (.inr (by simp))
      replace r4 := cell_set r4 ⟨w.heap.size, 0, none⟩ (.int .i64 0) (.inr (by simp))
      replace ME := ME.put ⟨w.heap.size, 0, none⟩ (.int .i64 0) (show w.heap.size ≤ w.heap.size from by omega)
      replace r0 := cell_set r0 ⟨w.heap.size, 1, none⟩ (.int .i64 0) (.inr (by simp))
      replace r1 := World.cell?_setCell_same _ _ (.int .i64 0) r1
      replace r2 := cell_set r2 ⟨w.heap.size, 1, none⟩ (.int .i64 0) (.inr (by simp))
      replace r3 := cell_set r3 ⟨w.heap.size, 1, none⟩ (.int .i64 0) (.inr (by simp))
      replace r4 := cell_set r4 ⟨w.heap.size, 1, none⟩ (.int .i64 0) (.inr (by simp))
      replace ME := ME.put ⟨w.heap.size, 1, none⟩ (.int .i64 0) (show w.heap.size ≤ w.heap.size from by omega)
      replace r0 := cell_set r0 ⟨w.heap.size, 2, none⟩ (.int .i64 0) (.inr (by simp))
      replace r1 := cell_set r1 ⟨w.heap.size, 2, none⟩ (.int .i64 0) (.inr (by simp))
      replace r2 := World.cell?_setCell_same _ _ (.int .i64 0) r2
      replace r3 := cell_set r3 ⟨w.heap.size, 2, none⟩ (.int .i64 0) (.inr (by simp))
      replace r4 := cell_set r4 ⟨w.heap.size, 2, none⟩ (.int .i64 0) (.inr (by simp))
      replace ME := ME.put ⟨w.heap.size, 2, none⟩ (.int .i64 0) (show w.heap.size ≤ w.heap.size from by omega)
      replace r0 := cell_set r0 ⟨w.heap.size, 3, none⟩ (.int .i64 0) (.inr (by simp))
      replace r1 := cell_set r1 ⟨w.heap.size, 3, none⟩ (.int .i64 0) (.inr (by simp))
      replace r2 := cell_set r2 ⟨w.heap.size, 3, none⟩ (.int .i64 0) (.inr (by simp))
      replace r3 := World.cell?_setCell_same _ _ (.int .i64 0) r3
      replace r4 := cell_set r4 ⟨w.heap.size, 3, none⟩ (.int .i64 0) (.inr (by simp))
      replace ME := ME.put ⟨w.heap.size, 3, none⟩ (.int .i64 0) (show w.heap.size ≤ w.heap.size from by omega)
      replace r0 := cell_set r0 ⟨w.heap.size, 4, none⟩ (.int .i64 0) (.inr (by simp))
      replace r1 := cell_set r1 ⟨w.heap.size, 4, none⟩ (.int .i64 0) (.inr (by simp))
      replace r2 := cell_set r2 ⟨w.heap.size, 4, none⟩ (.int .i64 0) (.inr (by simp))
      replace r3 := cell_set r3 ⟨w.heap.size, 4, none⟩ (.int .i64 0) (.inr (by simp))
      replace r4 := World.cell?_setCell_same _ _ (.int .i64 0) r4
      replace ME := ME.put ⟨w.heap.size, 4, none⟩ (.int .i64 0) (show w.heap.size ≤ w.heap.size from by omega)
      generalize (((((w4.setCell ⟨w.heap.size, 0, none⟩ (.int .i64 0)).setCell ⟨w.heap.size, 1, none⟩ (.int .i64 0)).setCell ⟨w.heap.size, 2, none⟩ (.int .i64 0)).setCell ⟨w.heap.size, 3, none⟩ (.int .i64 0)).setCell ⟨w.heap.size, 4, none⟩ (.int .i64 0)) = WF at *
      refine bodyPost_ret (v := .tuple #[.agg #[.int .i64 0, .int .i64 0, .int .i64 0, .int .i64 0, .int .i64 0], .int .i64 0, .bool false]) (by simp [results, Try.results11, go_sem, r0, r1, r2, r3, r4]) rfl ⟨?_, ?_⟩
      · rw [HR.out]; rfl
      · exact ME
    · rw [hk] at he
      subst he
      have HR := Lib.hid (rhO_yes hd (by rw [← hq.out]; exact hk))
      clear hk
      go_wp2_with fail
      replace r0 := World.cell?_setCell_same _ _ (.int .i64 q.nd) r0
      replace r1 := cell_set r1 ⟨w.heap.size, 0, none⟩ (.int .i64 q.nd) (.inr (by simp))
      replace r2 := cell_set r2 ⟨w.heap.size, 0, none⟩ (.int .i64 q.nd) (.inr (by simp))
      replace r3 := cell_set r3 ⟨w.heap.size, 0, none⟩ (.int .i64 q.nd) (.inr (by simp))
      replace r4 := cell_set r4 ⟨w.heap.size, 0, none⟩ (.int .i64 q.nd) (.inr (by simp))
      replace ME := ME.put ⟨w.heap.size, 0, none⟩ (.int .i64 q.nd) (show w.heap.size ≤ w.heap.size from by omega)
      replace r0 := cell_set r0 ⟨w.heap.size, 1, none⟩ (.int .i64 q.ing) (.inr (by simp))
      replace r1 := World.cell?_setCell_same _ _ (.int .i64 q.ing) r1
      replace r2 := cell_set r2 ⟨w.heap.size, 1, none⟩ (.int .i64 q.ing) (.inr (by simp))
      replace r3 := cell_set r3 ⟨w.heap.size, 1, none⟩ (.int .i64 q.ing) (.inr (by simp))
      replace r4 := cell_set r4 ⟨w.heap.size, 1, none⟩ (.int .i64 q.ing) (.inr (by simp))
      replace ME := ME.put ⟨w.heap.size, 1, none⟩ (.int .i64 q.ing) (show w.heap.size ≤ w.heap.size from by omega)
      replace r0 := cell_set r0 ⟨w.heap.size, 2, none⟩ (.int .i64 q.eg) (.inr (by simp))
      replace r1 := cell_set r1 ⟨w.heap.size, 2, none⟩ (.int .i64 q.eg) (.inr (by simp))
      replace r2 := World.cell?_setCell_same _ _ (.int .i64 q.eg) r2
      replace r3 := cell_set r3 ⟨w.heap.size, 2, none⟩ (.int .i64 q.eg) (.inr (by simp))
      replace r4 := cell_set r4 ⟨w.heap.size, 2, none⟩ (.int .i64 q.eg) (.inr (by simp))
      replace ME := ME.put ⟨w.heap.size, 2, none⟩ (.int .i64 q.eg) (show w.heap.size ≤ w.heap.size from by omega)
      replace r0 := cell_set r0 ⟨w.heap.size, 3, none⟩ (.int .i64 q.exp) (.inr (by simp))
      replace r1 := cell_set r1 ⟨w.heap.size, 3, none⟩ (.int .i64 q.exp) (.inr (by simp))
      replace r2 := cell_set r2 ⟨w.heap.size, 3, none⟩ (.int .i64 q.exp) (.inr (by simp))
      replace r3 := World.cell?_setCell_same _ _ (.int .i64 q.exp) r3
      replace r4 := cell_set r4 ⟨w.heap.size, 3, none⟩ (.int .i64 q.exp) (.inr (by simp))
      replace ME := ME.put ⟨w.heap.size, 3, none⟩ (.int .i64 q.exp) (show w.heap.size ≤ w.heap.size from by omega)
      replace r0 := cell_set r0 ⟨w.heap.size, 4, none⟩ (.int .i64 q.mac) (.inr (by simp))
      replace r1 := cell_set r1 ⟨w.heap.size, 4, none⟩ (.int .i64 q.mac) (.inr (by simp))
      replace r2 := cell_set r2 ⟨w.heap.size, 4, none⟩ (.int .i64 q.mac) (.inr (by simp))
      replace r3 := cell_set r3 ⟨w.heap.size, 4, none⟩ (.int .i64 q.mac) (.inr (by simp))
      replace r4 := World.cell?_setCell_same _ _ (.int .i64 q.mac) r4
      replace ME := ME.put ⟨w.heap.size, 4, none⟩ (.int .i64 q.mac) (show w.heap.size ≤ w.heap.size from by omega)
      generalize (((((w4.setCell ⟨w.heap.size, 0, none⟩ (.int .i64 q.nd)).setCell ⟨w.heap.size, 1, none⟩ (.int .i64 q.ing)).setCell ⟨w.heap.size, 2, none⟩ (.int .i64 q.eg)).setCell ⟨w.heap.size, 3, none⟩ (.int .i64 q.exp)).setCell ⟨w.heap.size, 4, none⟩ (.int .i64 q.mac)) = WF at *
      refine bodyPost_ret (v := .tuple #[.agg #[.int .i64 q.nd, .int .i64 q.ing, .int .i64 q.eg, .int .i64 q.exp, .int .i64 q.mac], .int .i64 m, .bool true]) (by simp [results, Try.results11, go_sem, r0, r1, r2, r3, r4]) rfl ⟨?_, ?_⟩
      · rw [HR.out, ← hq.out]; rfl
      · exact ME

set_option maxRecDepth 100000 in
set_option maxHeartbeats 4000000 in
theorem implDecHop (a : Option Addr) (n c : Nat) (x : Int) (zs : List Int) (w : World) (h : Has .u8 w w.heap.size a n zs) (hf : ∀ z ∈ zs, (Lit.int .u8 z).wf = true) (hn : n ≤ 134217728) (hc : n ≤ c) (hx : (Lit.int .i64 x).wf = true) :
    Calls Try.prog 52 #[.slice a n c, .int .i64 x] w fun e w' => e = .returned (.tuple #[.agg #[.int .i64 (rhH (rhO zs x)).nd, .int .i64 (rhH (rhO zs x)).ing, .int .i64 (rhH (rhO zs x)).eg, .int .i64 (rhH (rhO zs x)).exp, .int .i64 (rhH (rhO zs x)).mac, .int .i64 (rhX (rhO zs x))], .bool (rhY (rhO zs x))]) ∧ Mk0 w w' := by
  have M0 := Mk.alloc w (Obj.cells #[Value.int .i64 0, Value.int .i64 0, Value.int .i64 0, Value.int .i64 0, Value.int .i64 0, Value.int .i64 0] 91)
  have r0 : (w.alloc (Obj.cells #[Value.int .i64 0, Value.int .i64 0, Value.int .i64 0, Value.int .i64 0, Value.int .i64 0, Value.int .i64 0] 91)).cell? ⟨w.heap.size, 0, none⟩ = some (.int .i64 0) := by simp [go_sem]
  have r1 : (w.alloc (Obj.cells #[Value.int .i64 0, Value.int .i64 0, Value.int .i64 0, Value.int .i64 0, Value.int .i64 0, Value.int .i64 0] 91)).cell? ⟨w.heap.size, 1, none⟩ = some (.int .i64 0) := by simp [go_sem]
  have r2 : (w.alloc (Obj.cells #[Value.int .i64 0, Value.int .i64 0, Value.int .i64 0, Value.int .i64 0, Value.int .i64 0, Value.int .i64 0] 91)).cell? ⟨w.heap.size, 2, none⟩ = some (.int .i64 0) := by simp [go_sem]
  have r3 : (w.alloc (Obj.cells #[Value.int .i64 0, Value.int .i64 0, Value.int .i64 0, Value.int .i64 0, Value.int .i64 0, Value.int .i64 0] 91)).cell? ⟨w.heap.size, 3, none⟩ = some (.int .i64 0) := by simp [go_sem]
  have r4 : (w.alloc (Obj.cells #[Value.int .i64 0, Value.int .i64 0, Value.int .i64 0, Value.int .i64 0, Value.int .i64 0, Value.int .i64 0] 91)).cell? ⟨w.heap.size, 4, none⟩ = some (.int .i64 0) := by simp [go_sem]
  have r5 : (w.alloc (Obj.cells #[Value.int .i64 0, Value.int .i64 0, Value.int .i64 0, Value.int .i64 0, Value.int .i64 0, Value.int .i64 0] 91)).cell? ⟨w.heap.size, 5, none⟩ = some (.int .i64 0) := by simp [go_sem]
  have fr : ∀ o, (w.alloc (Obj.cells #[Value.int .i64 0, Value.int .i64 0, Value.int .i64 0, Value.int .i64 0, Value.int .i64 0, Value.int .i64 0] 91)).frozen? ⟨w.heap.size, o, none⟩ = false := fun o => by simp [go_sem]
  have hs1 : (w.alloc (Obj.cells #[Value.int .i64 0, Value.int .i64 0, Value.int .i64 0, Value.int .i64 0, Value.int .i64 0, Value.int .i64 0] 91)).heap.size = w.heap.size + 1 := by rw [World.size_alloc]
  have hD := implDec a n c x 5 zs (w.alloc (Obj.cells #[Value.int .i64 0, Value.int .i64 0, Value.int .i64 0, Value.int .i64 0, Value.int .i64 0, Value.int .i64 0] 91)) (h.next M0.below0) hf hn hc hx
  cases hd : dc zs x 5 with
  | none =>
    rw [hd] at hD
    simp only [dcR, dcX, dcY] at hD
    go_enter Try.func52, Try.ntmps52
    go_wp2_with fail
    generalize (w.alloc (Obj.cells #[Value.int .i64 0, Value.int .i64 0, Value.int .i64 0, Value.int .i64 0, Value.int .i64 0, Value.int .i64 0] 91)) = WW at *
    refine hD.mono ?_
    rintro e w2 ⟨A, N, C, rfl, hA2, hO, bb⟩
    have m2 := Mk.of_below bb
    have M2 := M0.trans m2
    replace r0 := m2.cellAt r0
    replace r1 := m2.cellAt r1
    replace r2 := m2.cellAt r2
    replace r3 := m2.cellAt r3
    replace r4 := m2.cellAt r4
    replace r5 := m2.cellAt r5
    replace fr := fun o => (m2.frozen (b := w.heap.size) (o := o) (by omega) (.inr (Nat.zero_le _))).trans (fr o)
    have hws : w.heap.size < w2.heap.size := by have := m2.size; omega
    go_wp2_with fail
    replace r0 := World.cell?_setCell_same _ _ (.int .i64 0) r0
    replace r1 := cell_set r1 ⟨w.heap.size, 0, none⟩ (.int .i64 0) (.inr (by simp))
    replace r2 := cell_set r2 ⟨w.heap.size, 0, none⟩ (.int .i64 0) (.inr (by simp))
    replace r3 := cell_set r3 ⟨w.heap.size, 0, none⟩ (.int .i64 0) (.inr (by simp))
    replace r4 := cell_set r4 ⟨w.heap.size, 0, none⟩ (.int .i64 0) (.inr (by simp))
    replace r5 := cell_set r5 ⟨w.heap.size, 0, none⟩ (.int .i64 0) (.inr (by simp))
    replace M2 := M2.put ⟨w.heap.size, 0, none⟩ (.int .i64 0) (show w.heap.size ≤ w.heap.size from by omega)
    replace r0 := cell_set r0 ⟨w.heap.size, 1, none⟩ (.int .i64 0) (.inr (by simp))
    replace r1 := World.cell?_setCell_same _ _ (.int .i64 0) r1
    replace r2 := cell_set r2 ⟨w.heap.size, 1, none⟩ (.int .i64 0) (.inr (by simp))
    replace r3 := cell_set r3 ⟨w.heap.size, 1, none⟩ (.int .i64 0) (.inr (by simp))
    replace r4 := cell_set r4 ⟨w.heap.size, 1, none⟩ (.int .i64 0) (.inr (by simp))
    replace r5 := cell_set r5 ⟨w.heap.size, 1, none⟩ (.int .i64 0) (.inr (by simp))
    replace M2 := M2.put ⟨w.heap.size, 1, none⟩ (.int .i64 0) (show w.heap.size ≤ w.heap.size from by omega)
    replace r0 := cell_set r0 ⟨w.heap.size, 2, none⟩ (.int .i64 0) (.inr (by simp))
    replace r1 := cell_set r1 ⟨w.heap.size, 2, none⟩ (.int .i64 0) (.inr (by simp))
    replace r2 := World.cell?_setCell_same _ _ (.int .i64 0) r2
    replace r3 := cell_set r3 ⟨w.heap.size, 2, none⟩ (.int .i64 0) (.inr (by simp))
    replace r4 := cell_set r4 ⟨w.heap.size, 2, none⟩ (.int .i64 0) (.inr (by simp))
    replace r5 := cell_set r5 ⟨w.heap.size, 2, none⟩ (.int .i64 0) (.inr (by simp))
    replace M2 := M2.put ⟨w.heap.size, 2, none⟩ (.int .i64 0) (show w.heap.size ≤ w.heap.size from by omega)
    replace r0 := cell_set r0 ⟨w.heap.size, 3, none⟩ (.int .i64 0) (.inr (by simp))
    replace r1 := cell_set r1 ⟨w.heap.size, 3, none⟩ (.int .i64 0) (.inr (by simp))
    replace r2 := cell_set r2 ⟨w.heap.size, 3, none⟩ (.int .i64 0) (.inr (by simp))
    replace r3 := World.cell?_setCell_same _ _ (.int .i64 0) r3
    replace r4 := cell_set r4 ⟨w.heap.size, 3, none⟩ (.int .i64 0) (.inr (by simp))
    replace r5 := cell_set r5 ⟨w.heap.size, 3, none⟩ (.int .i64 0) (.inr (by simp))
    replace M2 := M2.put ⟨w.heap.size, 3, none⟩ (.int .i64 0) (show w.heap.size ≤ w.heap.size from by omega)
    replace r0 := cell_set r0 ⟨w.heap.size, 4, none⟩ (.int .i64 0) (.inr (by simp))
    replace r1 := cell_set r1 ⟨w.heap.size, 4, none⟩ (.int .i64 0) (.inr (by simp))
    replace r2 := cell_set r2 ⟨w.heap.size, 4, none⟩ (.int .i64 0) (.inr (by simp))
    replace r3 := cell_set r3 ⟨w.heap.size, 4, none⟩ (.int .i64 0) (.inr (by simp))
    replace r4 := World.cell?_setCell_same _ _ (.int .i64 0) r4
    replace r5 := cell_set r5 ⟨w.heap.size, 4, none⟩ (.int .i64 0) (.inr (by simp))
    replace M2 := M2.put ⟨w.heap.size, 4, none⟩ (.int .i64 0) (show w.heap.size ≤ w.heap.size from by omega)
    replace r0 := cell_set r0 ⟨w.heap.size, 5, none⟩ (.int .i64 0) (.inr (by simp))
    replace r1 := cell_set r1 ⟨w.heap.size, 5, none⟩ (.int .i64 0) (.inr (by simp))
    replace r2 := cell_set r2 ⟨w.heap.size, 5, none⟩ (.int .i64 0) (.inr (by simp))
    replace r3 := cell_set r3 ⟨w.heap.size, 5, none⟩ (.int .i64 0) (.inr (by simp))
    replace r4 := cell_set r4 ⟨w.heap.size, 5, none⟩ (.int .i64 0) (.inr (by simp))
    replace r5 := World.cell?_setCell_same _ _ (.int .i64 0) r5
    replace M2 := M2.put ⟨w.heap.size, 5, none⟩ (.int .i64 0) (show w.heap.size ≤ w.heap.size from by omega)
    generalize ((((((w2.setCell ⟨w.heap.size, 0, none⟩ (.int .i64 0)).setCell ⟨w.heap.size, 1, none⟩ (.int .i64 0)).setCell ⟨w.heap.size, 2, none⟩ (.int .i64 0)).setCell ⟨w.heap.size, 3, none⟩ (.int .i64 0)).setCell ⟨w.heap.size, 4, none⟩ (.int .i64 0)).setCell ⟨w.heap.size, 5, none⟩ (.int .i64 0)) = WF at *
    refine bodyPost_ret (v := .tuple #[.agg #[.int .i64 0, .int .i64 0, .int .i64 0, .int .i64 0, .int .i64 0, .int .i64 0], .bool false]) (by simp [results, Try.results52, go_sem, r0, r1, r2, r3, r4, r5]) rfl ⟨?_, ?_⟩
    · rw [rhO_none hd]; rfl
    · exact M2
  | some p =>
    rw [hd] at hD
    obtain ⟨l, m⟩ := p
    have hl5 := dc_len hd
    simp only [dcR, dcX, dcY] at hD
    go_enter Try.func52, Try.ntmps52
    go_wp2_with fail
    generalize (w.alloc (Obj.cells #[Value.int .i64 0, Value.int .i64 0, Value.int .i64 0, Value.int .i64 0, Value.int .i64 0, Value.int .i64 0] 91)) = WW at *
    refine hD.mono ?_
    rintro e w2 ⟨A, N, C, rfl, hA2, hO, bb⟩
    obtain rfl : N = 5 := hO.1.symm.trans hl5
    have m2 := Mk.of_below bb
    have M2 := M0.trans m2
    replace r0 := m2.cellAt r0
    replace r1 := m2.cellAt r1
    replace r2 := m2.cellAt r2
    replace r3 := m2.cellAt r3
    replace r4 := m2.cellAt r4
    replace r5 := m2.cellAt r5
    replace fr := fun o => (m2.frozen (b := w.heap.size) (o := o) (by omega) (.inr (Nat.zero_le _))).trans (fr o)
    have hws : w.heap.size < w2.heap.size := by have := m2.size; omega
    obtain ⟨b, off, rfl, hb, hc'⟩ := hO.has.2 (by omega)
    obtain ⟨q, hq⟩ : ∃ q, Hid (q = hopL5 l) := ⟨_, Lib.hid rfl⟩
    have c0 : w2.cell? ⟨b, off, none⟩ = some (.int .i64 q.nd) := by rw [hq.out]; exact hc' 0 (by omega)
    have c1 : w2.cell? ⟨b, off + 1, none⟩ = some (.int .i64 q.ing) := by rw [hq.out]; exact hc' 1 (by omega)
    have c2 : w2.cell? ⟨b, off + 2, none⟩ = some (.int .i64 q.eg) := by rw [hq.out]; exact hc' 2 (by omega)
    have c3 : w2.cell? ⟨b, off + 3, none⟩ = some (.int .i64 q.exp) := by rw [hq.out]; exact hc' 3 (by omega)
    have c4 : w2.cell? ⟨b, off + 4, none⟩ = some (.int .i64 q.mac) := by rw [hq.out]; exact hc' 4 (by omega)
    clear hc'
    go_wp2_with fail
    refine (implHopOf b off 5 C q _ (Nat.le_refl _) c0 c1 c2 c3 c4).mono ?_
    rintro e w3 ⟨rfl, m3⟩
    have M3 := M2.trans m3
    replace r0 := m3.cellAt r0
    replace r1 := m3.cellAt r1
    replace r2 := m3.cellAt r2
    replace r3 := m3.cellAt r3
    replace r4 := m3.cellAt r4
    replace r5 := m3.cellAt r5
    replace fr := fun o => (m3.frozen (b := w.heap.size) (o := o) (by omega) (.inr (Nat.zero_le _))).trans (fr o)
    have hws3 : w.heap.size < w3.heap.size := by have := m3.size; omega
    have MX := Mk.alloc w3 (Obj.cells #[Value.int .i64 q.nd, Value.int .i64 q.ing, Value.int .i64 q.eg, Value.int .i64 q.exp, Value.int .i64 q.mac] 24)
    have t0 : (w3.alloc (Obj.cells #[Value.int .i64 q.nd, Value.int .i64 q.ing, Value.int .i64 q.eg, Value.int .i64 q.exp, Value.int .i64 q.mac] 24)).cell? ⟨w3.heap.size, 0, none⟩ = some (.int .i64 q.nd) := by simp [go_sem]
    have t1 : (w3.alloc (Obj.cells #[Value.int .i64 q.nd, Value.int .i64 q.ing, Value.int .i64 q.eg, Value.int .i64 q.exp, Value.int .i64 q.mac] 24)).cell? ⟨w3.heap.size, 1, none⟩ = some (.int .i64 q.ing) := by simp [go_sem]
    have t2 : (w3.alloc (Obj.cells #[Value.int .i64 q.nd, Value.int .i64 q.ing, Value.int .i64 q.eg, Value.int .i64 q.exp, Value.int .i64 q.mac] 24)).cell? ⟨w3.heap.size, 2, none⟩ = some (.int .i64 q.eg) := by simp [go_sem]
    have t3 : (w3.alloc (Obj.cells #[Value.int .i64 q.nd, Value.int .i64 q.ing, Value.int .i64 q.eg, Value.int .i64 q.exp, Value.int .i64 q.mac] 24)).cell? ⟨w3.heap.size, 3, none⟩ = some (.int .i64 q.exp) := by simp [go_sem]
    have t4 : (w3.alloc (Obj.cells #[Value.int .i64 q.nd, Value.int .i64 q.ing, Value.int .i64 q.eg, Value.int .i64 q.exp, Value.int .i64 q.mac] 24)).cell? ⟨w3.heap.size, 4, none⟩ = some (.int .i64 q.mac) := by simp [go_sem]
    replace r0 := MX.cellAt r0
    replace r1 := MX.cellAt r1
    replace r2 := MX.cellAt r2
    replace r3 := MX.cellAt r3
    replace r4 := MX.cellAt r4
    replace r5 := MX.cellAt r5
    replace fr := fun o => (MX.frozen (b := w.heap.size) (o := o) hws3 (.inr (Nat.zero_le _))).trans (fr o)
    replace M3 := M3.trans MX
    have hws4 : w.heap.size < (w3.alloc (Obj.cells #[Value.int .i64 q.nd, Value.int .i64 q.ing, Value.int .i64 q.eg, Value.int .i64 q.exp, Value.int .i64 q.mac] 24)).heap.size := by rw [World.size_alloc]; omega
    go_wp2_with fail
    refine (implVHop q.nd q.ing q.eg q.exp q.mac _).mono ?_
    rintro e w4 ⟨he, m4⟩
    have M4 := M3.trans m4
    replace r0 := m4.cellAt r0
    replace r1 := m4.cellAt r1
    replace r2 := m4.cellAt r2
    replace r3 := m4.cellAt r3
    replace r4 := m4.cellAt r4
    replace r5 := m4.cellAt r5
    replace t0 := m4.cellAt t0
    replace t1 := m4.cellAt t1
    replace t2 := m4.cellAt t2
    replace t3 := m4.cellAt t3
    replace t4 := m4.cellAt t4
    replace fr := fun o => (m4.frozen (b := w.heap.size) (o := o) hws4 (.inr (Nat.zero_le _))).trans (fr o)
    cases hk : hopOk ⟨q.nd, q.ing, q.eg, q.exp, q.mac⟩
    · rw [hk] at he
      subst he
      have HR := Lib.hid (rhO_no hd (by rw [← hq.out]; exact hk))
      clear hk
      go_wp2_with fail
      replace r0 := World.cell?_setCell_same _ _ (.int .i64 0) r0
      replace r1 := cell_set r1 ⟨w.heap.size, 0, none⟩ (.int .i64 0) (.inr (by simp))
      replace r2 := cell_set r2 ⟨w.heap.size, 0, none⟩ (.int .i64 0) (.inr (by simp))
      replace r3 := cell_set r3 ⟨w.heap.size, 0, none⟩ (.int .i64 0) (.inr (by simp))
      replace r4 := cell_set r4 ⟨w.heap.size, 0, none⟩ (.int .i64 0) (.inr (by simp))
      replace r5 := cell_set r5 ⟨w.heap.size, 0, none⟩ (.int .i64 0) (.inr (by simp))
      replace M4 := M4.put ⟨w.heap.size, 0, none⟩ (.int .i64 0) (show w.heap.size ≤ w.heap.size from by omega)
      replace r0 := cell_set r0 ⟨w.heap.size, 1, none⟩ (.int .i64 0) (.inr (by simp))
      replace r1 := World.cell?_setCell_same _ _ (.int .i64 0) r1
      replace r2 := cell_set r2 ⟨w.heap.size, 1, none⟩ (.int .i64 0) (.inr (by simp))
      replace r3 := cell_set r3 ⟨w.heap.size, 1, none⟩ (.int .i64 0) (.inr (by simp))
      replace r4 := cell_set r4 ⟨w.heap.size, 1, none⟩ (.int .i64 0) (.inr (by simp))
      replace r5 := cell_set r5 ⟨w.heap.size, 1, none⟩ (.int .i64 0) (.inr (by simp))
      replace M4 := M4.put ⟨w.heap.size, 1, none⟩ (.int .i64 0) (show w.heap.size ≤ w.heap.size from by omega)
      replace r0 := cell_set r0 ⟨w.heap.size, 2, none⟩ (.int .i64 0) (.inr (by simp))
      replace r1 := cell_set r1 ⟨w.heap.size, 2, none⟩ (.int .i64 0) (.inr (by simp))
      replace r2 := World.cell?_setCell_same _ _ (.int .i64 0) r2
      replace r3 := cell_set r3 ⟨w.heap.size, 2, none⟩ (.int .i64 0) (.inr (by simp))
      replace r4 := cell_set r4 ⟨w.heap.size, 2, none⟩ (.int .i64 0) (.inr (by simp))
      replace r5 := cell_set r5 ⟨w.heap.size, 2, none⟩ (.int .i64 0) (.inr (by simp))
      replace M4 := M4.put ⟨w.heap.size, 2, none⟩ (.int .i64 0) (show w.heap.size ≤ w.heap.size from by omega)
      replace r0 := cell_set r0 ⟨w.heap.size, 3, none⟩ (.int .i64 0) (.inr (by simp))
      replace r1 := cell_set r1 ⟨w.heap.size, 3, none⟩ (.int .i64 0) (.inr (by simp))
      replace r2 := cell_set r2 ⟨w.heap.size, 3, none⟩ (.int .i64 0) (.inr (by simp))
      replace r3 := World.cell?_setCell_same _ _ (.int .i64 0) r3
      replace r4 := cell_set r4 ⟨w.heap.size, 3, none⟩ (.int .i64 0) (.inr (by simp))
      replace r5 := cell_set r5 ⟨w.heap.size, 3, none⟩ (.int .i64 0) (.inr (by simp))
      replace M4 := M4.put ⟨w.heap.size, 3, none⟩ (.int .i64 0) (show w.heap.size ≤ w.heap.size from by omega)
      replace r0 := cell_set r0 ⟨w.heap.size, 4, none⟩ (.int .i64 0) (.inr (by simp))
      replace r1 := cell_set r1 ⟨w.heap.size, 4, none⟩ (.int .i64 0) (.inr (by simp))
      replace r2 := cell_set r2 ⟨w.heap.size, 4, none⟩ (.int .i64 0) (.inr (by simp))
      replace r3 := cell_set r3 ⟨w.heap.size, 4, none⟩ (.int .i64 0) (.inr (by simp))
      replace r4 := World.cell?_setCell_same _ _ (.int .i64 0) r4
      replace r5 := cell_set r5 ⟨w.heap.size, 4, none⟩ (.int .i64 0) (.inr (by simp))
      replace M4 := M4.put ⟨w.heap.size, 4, none⟩ (.int .i64 0) (show w.heap.size ≤ w.heap.size from by omega)
      replace r0 := cell_set r0 ⟨w.heap.size, 5, none⟩ (.int .i64 0) (.inr (by simp))
      replace r1 := cell_set r1 ⟨w.heap.size, 5, none⟩ (.int .i64 0) (.inr (by simp))
      replace r2 := cell_set r2 ⟨w.heap.size, 5, none⟩ (.int .i64 0) (.inr (by simp))
      replace r3 := cell_set r3 ⟨w.heap.size, 5, none⟩ (.int .i64 0) (.inr (by simp))
      replace r4 := cell_set r4 ⟨w.heap.size, 5, none⟩ (.int .i64 0) (.inr (by simp))
      replace r5 := World.cell?_setCell_same _ _ (.int .i64 0) r5
      replace M4 := M4.put ⟨w.heap.size, 5, none⟩ (.int .i64 0) (show w.heap.size ≤ w.heap.size from by omega)
      generalize ((((((w4.setCell ⟨w.heap.size, 0, none⟩ (.int .i64 0)).setCell ⟨w.heap.size, 1, none⟩ (.int .i64 0)).setCell ⟨w.heap.size, 2, none⟩ (.int .i64 0)).setCell ⟨w.heap.size, 3, none⟩ (.int .i64 0)).setCell ⟨w.heap.size, 4, none⟩ (.int .i64 0)).setCell ⟨w.heap.size, 5, none⟩ (.int .i64 0)) = WF at *
      refine bodyPost_ret (v := .tuple #[.agg #[.int .i64 0, .int .i64 0, .int .i64 0, .int .i64 0, .int .i64 0, .int .i64 0], .bool false]) (by simp [results, Try.results52, go_sem, r0, r1, r2, r3, r4, r5]) rfl ⟨?_, ?_⟩
      · rw [HR.out]; rfl
      · exact M4
    · rw [hk] at he
      subst he
      have HR := Lib.hid (rhO_yes hd (by rw [← hq.out]; exact hk))
      clear hk
      go_wp2_with fail
      replace r0 := World.cell?_setCell_same _ _ (.int .i64 q.nd) r0
      replace r1 := cell_set r1 ⟨w.heap.size, 0, none⟩ (.int .i64 q.nd) (.inr (by simp))
      replace r2 := cell_set r2 ⟨w.heap.size, 0, none⟩ (.int .i64 q.nd) (.inr (by simp))
      replace r3 := cell_set r3 ⟨w.heap.size, 0, none⟩ (.int .i64 q.nd) (.inr (by simp))
      replace r4 := cell_set r4 ⟨w.heap.size, 0, none⟩ (.int .i64 q.nd) (.inr (by simp))
      replace r5 := cell_set r5 ⟨w.heap.size, 0, none⟩ (.int .i64 q.nd) (.inr (by simp))
      replace M4 := M4.put ⟨w.heap.size, 0, none⟩ (.int .i64 q.nd) (show w.heap.size ≤ w.heap.size from by omega)
      replace r0 := cell_set r0 ⟨w.heap.size, 1, none⟩ (.int .i64 q.ing) (.inr (by simp))
      replace r1 := World.cell?_setCell_same _ _ (.int .i64 q.ing) r1
      replace r2 := cell_set r2 ⟨w.heap.size, 1, none⟩ (.int .i64 q.ing) (.inr (by simp))
      replace r3 := cell_set r3 ⟨w.heap.size, 1, none⟩ (.int .i64 q.ing) (.inr (by simp))
      replace r4 := cell_set r4 ⟨w.heap.size, 1, none⟩ (.int .i64 q.ing) (.inr (by simp))
      replace r5 := cell_set r5 ⟨w.heap.size, 1, none⟩ (.int .i64 q.ing) (.inr (by simp))
      replace M4 := M4.put ⟨w.heap.size, 1, none⟩ (.int .i64 q.ing) (show w.heap.size ≤ w.heap.size from by omega)
      replace r0 := cell_set r0 ⟨w.heap.size, 2, none⟩ (.int .i64 q.eg) (.inr (by simp))
      replace r1 := cell_set r1 ⟨w.heap.size, 2, none⟩ (.int .i64 q.eg) (.inr (by simp))
      replace r2 := World.cell?_setCell_same _ _ (.int .i64 q.eg) r2
      replace r3 := cell_set r3 ⟨w.heap.size, 2, none⟩ (.int .i64 q.eg) (.inr (by simp))
      replace r4 := cell_set r4 ⟨w.heap.size, 2, none⟩ (.int .i64 q.eg) (.inr (by simp))
      replace r5 := cell_set r5 ⟨w.heap.size, 2, none⟩ (.int .i64 q.eg) (.inr (by simp))
      replace M4 := M4.put ⟨w.heap.size, 2, none⟩ (.int .i64 q.eg) (show w.heap.size ≤ w.heap.size from by omega)
      replace r0 := cell_set r0 ⟨w.heap.size, 3, none⟩ (.int .i64 q.exp) (.inr (by simp))
      replace r1 := cell_set r1 ⟨w.heap.size, 3, none⟩ (.int .i64 q.exp) (.inr (by simp))
      replace r2 := cell_set r2 ⟨w.heap.size, 3, none⟩ (.int .i64 q.exp) (.inr (by simp))
      replace r3 := World.cell?_setCell_same _ _ (.int .i64 q.exp) r3
      replace r4 := cell_set r4 ⟨w.heap.size, 3, none⟩ (.int .i64 q.exp) (.inr (by simp))
      replace r5 := cell_set r5 ⟨w.heap.size, 3, none⟩ (.int .i64 q.exp) (.inr (by simp))
      replace M4 := M4.put ⟨w.heap.size, 3, none⟩ (.int .i64 q.exp) (show w.heap.size ≤ w.heap.size from by omega)
      replace r0 := cell_set r0 ⟨w.heap.size, 4, none⟩ (.int .i64 q.mac) (.inr (by simp))
      replace r1 := cell_set r1 ⟨w.heap.size, 4, none⟩ (.int .i64 q.mac) (.inr (by simp))
      replace r2 := cell_set r2 ⟨w.heap.size, 4, none⟩ (.int .i64 q.mac) (.inr (by simp))
      replace r3 := cell_set r3 ⟨w.heap.size, 4, none⟩ (.int .i64 q.mac) (.inr (by simp))
      replace r4 := World.cell?_setCell_same _ _ (.int .i64 q.mac) r4
      replace r5 := cell_set r5 ⟨w.heap.size, 4, none⟩ (.int .i64 q.mac) (.inr (by simp))
      replace M4 := M4.put ⟨w.heap.size, 4, none⟩ (.int .i64 q.mac) (show w.heap.size ≤ w.heap.size from by omega)
      replace r0 := cell_set r0 ⟨w.heap.size, 5, none⟩ (.int .i64 m) (.inr (by simp))
      replace r1 := cell_set r1 ⟨w.heap.size, 5, none⟩ (.int .i64 m) (.inr (by simp))
      replace r2 := cell_set r2 ⟨w.heap.size, 5, none⟩ (.int .i64 m) (.inr (by simp))
      replace r3 := cell_set r3 ⟨w.heap.size, 5, none⟩ (.int .i64 m) (.inr (by simp))
      replace r4 := cell_set r4 ⟨w.heap.size, 5, none⟩ (.int .i64 m) (.inr (by simp))
      replace r5 := World.cell?_setCell_same _ _ (.int .i64 m) r5
      replace M4 := M4.put ⟨w.heap.size, 5, none⟩ (.int .i64 m) (show w.heap.size ≤ w.heap.size from by omega)
      generalize ((((((w4.setCell ⟨w.heap.size, 0, none⟩ (.int .i64 q.nd)).setCell ⟨w.heap.size, 1, none⟩ (.int .i64 q.ing)).setCell ⟨w.heap.size, 2, none⟩ (.int .i64 q.eg)).setCell ⟨w.heap.size, 3, none⟩ (.int .i64 q.exp)).setCell ⟨w.heap.size, 4, none⟩ (.int .i64 q.mac)).setCell ⟨w.heap.size, 5, none⟩ (.int .i64 m)) = WF at *
      refine bodyPost_ret (v := .tuple #[.agg #[.int .i64 q.nd, .int .i64 q.ing, .int .i64 q.eg, .int .i64 q.exp, .int .i64 q.mac, .int .i64 m], .bool true]) (by simp [results, Try.results52, go_sem, r0, r1, r2, r3, r4, r5]) rfl ⟨?_, ?_⟩
      · rw [HR.out, ← hq.out]; rfl
      · exact M4

set_option maxRecDepth 100000 in
set_option maxHeartbeats 4000000 in
theorem implRdHop (a : Option Addr) (n c : Nat) (x : Int) (zs : List Int) (w : World) (h : Has .u8 w w.heap.size a n zs) (hf : ∀ z ∈ zs, (Lit.int .u8 z).wf = true) (hn : n ≤ 134217728) (hc : n ≤ c) (hx : (Lit.int .i64 x).wf = true) :
    Calls Try.prog 13 #[.slice a n c, .int .i64 x] w fun e w' => e = .returned (.tuple #[.agg #[.int .i64 (rhH (rhO zs x)).nd, .int .i64 (rhH (rhO zs x)).ing, .int .i64 (rhH (rhO zs x)).eg, .int .i64 (rhH (rhO zs x)).exp, .int .i64 (rhH (rhO zs x)).mac], .int .i64 (rhX (rhO zs x)), .bool (rhY (rhO zs x))]) ∧ Mk0 w w' := by
  have M0 := Mk.alloc w (Obj.cells #[Value.int .i64 0, Value.int .i64 0, Value.int .i64 0, Value.int .i64 0, Value.int .i64 0] 24)
  have r0 : (w.alloc (Obj.cells #[Value.int .i64 0, Value.int .i64 0, Value.int .i64 0, Value.int .i64 0, Value.int .i64 0] 24)).cell? ⟨w.heap.size, 0, none⟩ = some (.int .i64 0) := by simp [go_sem]
  have r1 : (w.alloc (Obj.cells #[Value.int .i64 0, Value.int .i64 0, Value.int .i64 0, Value.int .i64 0, Value.int .i64 0] 24)).cell? ⟨w.heap.size, 1, none⟩ = some (.int .i64 0) := by simp [go_sem]
  have r2 : (w.alloc (Obj.cells #[Value.int .i64 0, Value.int .i64 0, Value.int .i64 0, Value.int .i64 0, Value.int .i64 0] 24)).cell? ⟨w.heap.size, 2, none⟩ = some (.int .i64 0) := by simp [go_sem]
  have r3 : (w.alloc (Obj.cells #[Value.int .i64 0, Value.int .i64 0, Value.int .i64 0, Value.int .i64 0, Value.int .i64 0] 24)).cell? ⟨w.heap.size, 3, none⟩ = some (.int .i64 0) := by simp [go_sem]
  have r4 : (w.alloc (Obj.cells #[Value.int .i64 0, Value.int .i64 0, Value.int .i64 0, Value.int .i64 0, Value.int .i64 0] 24)).cell? ⟨w.heap.size, 4, none⟩ = some (.int .i64 0) := by simp [go_sem]
  have fr : ∀ o, (w.alloc (Obj.cells #[Value.int .i64 0, Value.int .i64 0, Value.int .i64 0, Value.int .i64 0, Value.int .i64 0] 24)).frozen? ⟨w.heap.size, o, none⟩ = false := fun o => by simp [go_sem]
  have hs1 : (w.alloc (Obj.cells #[Value.int .i64 0, Value.int .i64 0, Value.int .i64 0, Value.int .i64 0, Value.int .i64 0] 24)).heap.size = w.heap.size + 1 := by rw [World.size_alloc]
  obtain ⟨q, hq⟩ : ∃ q, Hid (q = rhH (rhO zs x)) := ⟨_, Lib.hid rfl⟩
  obtain ⟨m, hm⟩ : ∃ m, Hid (m = rhX (rhO zs x)) := ⟨_, Lib.hid rfl⟩
  obtain ⟨y, hy⟩ : ∃ y, Hid (y = rhY (rhO zs x)) := ⟨_, Lib.hid rfl⟩
  have hD := implDecHop a n c x zs (w.alloc (Obj.cells #[Value.int .i64 0, Value.int .i64 0, Value.int .i64 0, Value.int .i64 0, Value.int .i64 0] 24)) (h.next M0.below0) hf hn hc hx
  rw [← hq.out, ← hm.out, ← hy.out] at hD ⊢
  go_enter Try.func13, Try.ntmps13
  go_wp2_with fail
  generalize (w.alloc (Obj.cells #[Value.int .i64 0, Value.int .i64 0, Value.int .i64 0, Value.int .i64 0, Value.int .i64 0] 24)) = WW at *
  refine hD.mono ?_
  rintro e w2 ⟨rfl, m2⟩
  have M2 := M0.trans m2
  replace r0 := m2.cellAt r0
  replace r1 := m2.cellAt r1
  replace r2 := m2.cellAt r2
  replace r3 := m2.cellAt r3
  replace r4 := m2.cellAt r4
  replace fr := fun o => (m2.frozen (b := w.heap.size) (o := o) (by omega) (.inr (Nat.zero_le _))).trans (fr o)
  have hws : w.heap.size < w2.heap.size := by have := m2.size; omega
  have MX := Mk.alloc w2 (Obj.cells #[Value.int .i64 q.nd, Value.int .i64 q.ing, Value.int .i64 q.eg, Value.int .i64 q.exp, Value.int .i64 q.mac, Value.int .i64 m] 91)
  have t0 : (w2.alloc (Obj.cells #[Value.int .i64 q.nd, Value.int .i64 q.ing, Value.int .i64 q.eg, Value.int .i64 q.exp, Value.int .i64 q.mac, Value.int .i64 m] 91)).cell? ⟨w2.heap.size, 0, none⟩ = some (.int .i64 q.nd) := by simp [go_sem]
  have t1 : (w2.alloc (Obj.cells #[Value.int .i64 q.nd, Value.int .i64 q.ing, Value.int .i64 q.eg, Value.int .i64 q.exp, Value.int .i64 q.mac, Value.int .i64 m] 91)).cell? ⟨w2.heap.size, 1, none⟩ = some (.int .i64 q.ing) := by simp [go_sem]
  have t2 : (w2.alloc (Obj.cells #[Value.int .i64 q.nd, Value.int .i64 q.ing, Value.int .i64 q.eg, Value.int .i64 q.exp, Value.int .i64 q.mac, Value.int .i64 m] 91)).cell? ⟨w2.heap.size, 2, none⟩ = some (.int .i64 q.eg) := by simp [go_sem]
  have t3 : (w2.alloc (Obj.cells #[Value.int .i64 q.nd, Value.int .i64 q.ing, Value.int .i64 q.eg, Value.int .i64 q.exp, Value.int .i64 q.mac, Value.int .i64 m] 91)).cell? ⟨w2.heap.size, 3, none⟩ = some (.int .i64 q.exp) := by simp [go_sem]
  have t4 : (w2.alloc (Obj.cells #[Value.int .i64 q.nd, Value.int .i64 q.ing, Value.int .i64 q.eg, Value.int .i64 q.exp, Value.int .i64 q.mac, Value.int .i64 m] 91)).cell? ⟨w2.heap.size, 4, none⟩ = some (.int .i64 q.mac) := by simp [go_sem]
  have t5 : (w2.alloc (Obj.cells #[Value.int .i64 q.nd, Value.int .i64 q.ing, Value.int .i64 q.eg, Value.int .i64 q.exp, Value.int .i64 q.mac, Value.int .i64 m] 91)).cell? ⟨w2.heap.size, 5, none⟩ = some (.int .i64 m) := by simp [go_sem]
  replace r0 := MX.cellAt r0
  replace r1 := MX.cellAt r1
  replace r2 := MX.cellAt r2
  replace r3 := MX.cellAt r3
  replace r4 := MX.cellAt r4
  replace fr := fun o => (MX.frozen (b := w.heap.size) (o := o) hws (.inr (Nat.zero_le _))).trans (fr o)
  replace M2 := M2.trans MX
  have hws4 : w.heap.size < (w2.alloc (Obj.cells #[Value.int .i64 q.nd, Value.int .i64 q.ing, Value.int .i64 q.eg, Value.int .i64 q.exp, Value.int .i64 q.mac, Value.int .i64 m] 91)).heap.size := by rw [World.size_alloc]; omega
  go_wp2_with fail
  obtain ⟨g, hg⟩ : ∃ g, Hid (g = w2.heap.size) := ⟨_, Lib.hid rfl⟩
  have hgw : w.heap.size < g := by rw [hg.out]; exact hws
  have hg3 : g < (w2.alloc (Obj.cells #[Value.int .i64 q.nd, Value.int .i64 q.ing, Value.int .i64 q.eg, Value.int .i64 q.exp, Value.int .i64 q.mac, Value.int .i64 m] 91)).heap.size := by rw [hg.out, World.size_alloc]; omega
  rw [← hg.out] at t0
  rw [← hg.out] at t1
  rw [← hg.out] at t2
  rw [← hg.out] at t3
  rw [← hg.out] at t4
  rw [← hg.out] at t5
  generalize (w2.alloc (Obj.cells #[Value.int .i64 q.nd, Value.int .i64 q.ing, Value.int .i64 q.eg, Value.int .i64 q.exp, Value.int .i64 q.mac, Value.int .i64 m] 91)) = w3 at *
  rw [← hg.out]
  clear hws hg m2
  have M2' := Lib.hid M2
  clear M2 M0 MX
  go_region
  all_goals (
    go_wp2_with fail
    have ME : Mk0 w w3 := M2'.out
    replace r0 := World.cell?_setCell_same _ _ (.int .i64 q.nd) r0
    replace r1 := cell_set r1 ⟨w.heap.size, 0, none⟩ (.int .i64 q.nd) (.inr (by simp))
    replace r2 := cell_set r2 ⟨w.heap.size, 0, none⟩ (.int .i64 q.nd) (.inr (by simp))
    replace r3 := cell_set r3 ⟨w.heap.size, 0, none⟩ (.int .i64 q.nd) (.inr (by simp))
    replace r4 := cell_set r4 ⟨w.heap.size, 0, none⟩ (.int .i64 q.nd) (.inr (by simp))
    replace ME := ME.put ⟨w.heap.size, 0, none⟩ (.int .i64 q.nd) (show w.heap.size ≤ w.heap.size from by omega)
    replace r0 := cell_set r0 ⟨w.heap.size, 1, none⟩ (.int .i64 q.ing) (.inr (by simp))
    replace r1 := World.cell?_setCell_same _ _ (.int .i64 q.ing) r1
    replace r2 := cell_set r2 ⟨w.heap.size, 1, none⟩ (.int .i64 q.ing) (.inr (by simp))
    replace r3 := cell_set r3 ⟨w.heap.size, 1, none⟩ (.int .i64 q.ing) (.inr (by simp))
    replace r4 := cell_set r4 ⟨w.heap.size, 1, none⟩ (.int .i64 q.ing) (.inr (by simp))
    replace ME := ME.put ⟨w.heap.size, 1, none⟩ (.int .i64 q.ing) (show w.heap.size ≤ w.heap.size from by omega)
    replace r0 := cell_set r0 ⟨w.heap.size, 2, none⟩ (.int .i64 q.eg) (.inr (by simp))
    replace r1 := cell_set r1 ⟨w.heap.size, 2, none⟩ (.int .i64 q.eg) (.inr (by simp))
    replace r2 := World.cell?_setCell_same _ _ (.int .i64 q.eg) r2
    replace r3 := cell_set r3 ⟨w.heap.size, 2, none⟩ (.int .i64 q.eg) (.inr (by simp))
    replace r4 := cell_set r4 ⟨w.heap.size, 2, none⟩ (.int .i64 q.eg) (.inr (by simp))
    replace ME := ME.put ⟨w.heap.size, 2, none⟩ (.int .i64 q.eg) (show w.heap.size ≤ w.heap.size from by omega)
    replace r0 := cell_set r0 ⟨w.heap.size, 3, none⟩ (.int .i64 q.exp) (.inr (by simp))
    replace r1 := cell_set r1 ⟨w.heap.size, 3, none⟩ (.int .i64 q.exp) (.inr (by simp))
    replace r2 := cell_set r2 ⟨w.heap.size, 3, none⟩ (.int .i64 q.exp) (.inr (by simp))
    replace r3 := World.cell?_setCell_same _ _ (.int .i64 q.exp) r3
    replace r4 := cell_set r4 ⟨w.heap.size, 3, none⟩ (.int .i64 q.exp) (.inr (by simp))
    replace ME := ME.put ⟨w.heap.size, 3, none⟩ (.int .i64 q.exp) (show w.heap.size ≤ w.heap.size from by omega)
    replace r0 := cell_set r0 ⟨w.heap.size, 4, none⟩ (.int .i64 q.mac) (.inr (by simp))
    replace r1 := cell_set r1 ⟨w.heap.size, 4, none⟩ (.int .i64 q.mac) (.inr (by simp))
    replace r2 := cell_set r2 ⟨w.heap.size, 4, none⟩ (.int .i64 q.mac) (.inr (by simp))
    replace r3 := cell_set r3 ⟨w.heap.size, 4, none⟩ (.int .i64 q.mac) (.inr (by simp))
    replace r4 := World.cell?_setCell_same _ _ (.int .i64 q.mac) r4
    replace ME := ME.put ⟨w.heap.size, 4, none⟩ (.int .i64 q.mac) (show w.heap.size ≤ w.heap.size from by omega)
    generalize (((((w3.setCell ⟨w.heap.size, 0, none⟩ (.int .i64 q.nd)).setCell ⟨w.heap.size, 1, none⟩ (.int .i64 q.ing)).setCell ⟨w.heap.size, 2, none⟩ (.int .i64 q.eg)).setCell ⟨w.heap.size, 3, none⟩ (.int .i64 q.exp)).setCell ⟨w.heap.size, 4, none⟩ (.int .i64 q.mac)) = WF at *
    refine bodyPost_ret (v := .tuple #[.agg #[.int .i64 q.nd, .int .i64 q.ing, .int .i64 q.eg, .int .i64 q.exp, .int .i64 q.mac], .int .i64 m, .bool y]) (by simp [results, Try.results13, go_sem, r0, r1, r2, r3, r4]) rfl ⟨?_, ?_⟩
    · rfl
    · exact ME.trans (Mk.drew1 _))

end Go.Proofs.Ytiphndgmgpiodaa
