
/- ReversePart of both sides. -/
import Derived.Test.YtifhhfndoifbhaaGreatMkcPathPart
import Derived.Test.YtifhhfndoifbhaaGreatTurn
import Derived.Test.YtifhhfndoifbhaaGreatTurnHop
import Derived.Test.YtifhhfndoifbhaaGreatWs
namespace Go.Proofs.YtifhhfndoifbhaaGreat
open Go.ChangeShapes Go.WideShapes Go.ChangeAt Go.RowKit
set_option linter.unusedVariables false
def rkV (k : Int) : Int := if k = 1 then 4 else if k = 4 then 1 else if k = 2 then 3 else if k = 3 then 2 else k
theorem oneHop1 : ∀ (x : THop) (j : Nat), (THop.cell x j).oneCell' = true := fun x j => by unfold THop.cell; split <;> rfl
def turnP (zs : List THop) (n : Nat) : List THop := turnL (fun x => x) zs n
set_option maxRecDepth 100000 in
set_option maxHeartbeats 4000000 in
theorem specRK (k : Int) (w : World) : Calls Tryz.prog 68 #[.int .i64 k] w fun e w' => e = .returned (.int .i64 (rkV k)) ∧ w = w' := by
  by_cases h1 : k = 1
  · subst h1
    go_enter Tryz.func68, Tryz.ntmps68
    go_wp2
    go_ret
    exact ⟨retI rfl, rfl⟩
  · by_cases h4 : k = 4
    · subst h4
      go_enter Tryz.func68, Tryz.ntmps68
      go_wp2
      go_ret
      exact ⟨retI rfl, rfl⟩
    · by_cases h2 : k = 2
      · subst h2
        go_enter Tryz.func68, Tryz.ntmps68
        go_wp2
        go_ret
        exact ⟨retI rfl, rfl⟩
      · by_cases h3 : k = 3
        · subst h3
          go_enter Tryz.func68, Tryz.ntmps68
          go_wp2
          go_ret
          exact ⟨retI rfl, rfl⟩
        · have n1 : (k == 1) = false := by simpa using h1
          have n4 : (k == 4) = false := by simpa using h4
          have n2 : (k == 2) = false := by simpa using h2
          have n3 : (k == 3) = false := by simpa using h3
          go_enter Tryz.func68, Tryz.ntmps68
          go_wp2
          go_ret
          exact ⟨retI (by unfold rkV; rw [if_neg h1, if_neg h4, if_neg h2, if_neg h3]), rfl⟩

set_option maxRecDepth 100000 in
set_option maxHeartbeats 4000000 in
theorem implRK (k : Int) (w : World) : Calls Tryz.prog 70 #[.int .i64 k] w fun e w' => e = .returned (.int .i64 (rkV k)) ∧ w = w' := by
  by_cases h1 : k = 1
  · subst h1
    go_enter Tryz.func70, Tryz.ntmps70
    go_wp2
    go_ret
    exact ⟨retI rfl, rfl⟩
  · by_cases h4 : k = 4
    · subst h4
      go_enter Tryz.func70, Tryz.ntmps70
      go_wp2
      go_ret
      exact ⟨retI rfl, rfl⟩
    · by_cases h2 : k = 2
      · subst h2
        go_enter Tryz.func70, Tryz.ntmps70
        go_wp2
        go_ret
        exact ⟨retI rfl, rfl⟩
      · by_cases h3 : k = 3
        · subst h3
          go_enter Tryz.func70, Tryz.ntmps70
          go_wp2
          go_ret
          exact ⟨retI rfl, rfl⟩
        · have n1 : (k == 1) = false := by simpa using h1
          have n4 : (k == 4) = false := by simpa using h4
          have n2 : (k == 2) = false := by simpa using h2
          have n3 : (k == 3) = false := by simpa using h3
          go_enter Tryz.func70, Tryz.ntmps70
          go_wp2
          go_ret
          exact ⟨retI (by unfold rkV; rw [if_neg h1, if_neg h4, if_neg h2, if_neg h3]), rfl⟩

set_option maxRecDepth 100000 in
set_option maxHeartbeats 4000000 in
theorem implTurnH (x : THop) (w : World) : Calls Tryz.prog 73 #[.agg #[.int .i64 x.nd, .int .i64 x.ing, .int .i64 x.eg, .int .i64 x.exp, .int .i64 x.mac]] w fun e w' => e = .returned (.agg #[.int .i64 x.nd, .int .i64 x.ing, .int .i64 x.eg, .int .i64 x.exp, .int .i64 x.mac]) ∧ Mk0 w w' := by
  go_enter Tryz.func73, Tryz.ntmps73
  go_wp2
  refine bodyPost_ret (v := .agg #[.int .i64 x.nd, .int .i64 x.ing, .int .i64 x.eg, .int .i64 x.exp, .int .i64 x.mac]) (by simp [results, Tryz.results73, go_sem]) rfl ⟨rfl, Mk.of_below ?_⟩
  go_grown

set_option maxRecDepth 100000 in
set_option maxHeartbeats 4000000 in
theorem implRevPt (x0 x1 x2 : Int) (a : Option Addr) (n c B : Nat) (zs : List THop) (w : World) (h : HasHop w B a n zs) (hB : B ≤ w.heap.size) (hn : n ≤ 1048576) (hc : n ≤ c) :
    Calls Tryz.prog 50 #[.agg #[.int .i64 x0, .int .i64 x1, .int .i64 x2, .slice a n c]] w (OutCPathPart (rkV x0) x1 (afterV x0 x2 zs n (n : Int)) (turnP zs n) w) := by
  have M0 := (Mk.alloc w (Obj.cells #[Value.int .i64 x0, Value.int .i64 x1, Value.int .i64 x2, Value.slice a n c] 50)).new (Obj.cells #[Value.int .i64 0, Value.int .i64 0, Value.int .i64 0, Value.slice none 0 0] 50)
  have k0 : ((w.alloc (Obj.cells #[Value.int .i64 x0, Value.int .i64 x1, Value.int .i64 x2, Value.slice a n c] 50)).alloc (Obj.cells #[Value.int .i64 0, Value.int .i64 0, Value.int .i64 0, Value.slice none 0 0] 50)).cell? ⟨w.heap.size, 0, none⟩ = some (.int .i64 x0) := by simp [go_sem]
  have k1 : ((w.alloc (Obj.cells #[Value.int .i64 x0, Value.int .i64 x1, Value.int .i64 x2, Value.slice a n c] 50)).alloc (Obj.cells #[Value.int .i64 0, Value.int .i64 0, Value.int .i64 0, Value.slice none 0 0] 50)).cell? ⟨w.heap.size, 1, none⟩ = some (.int .i64 x1) := by simp [go_sem]
  have k2 : ((w.alloc (Obj.cells #[Value.int .i64 x0, Value.int .i64 x1, Value.int .i64 x2, Value.slice a n c] 50)).alloc (Obj.cells #[Value.int .i64 0, Value.int .i64 0, Value.int .i64 0, Value.slice none 0 0] 50)).cell? ⟨w.heap.size, 2, none⟩ = some (.int .i64 x2) := by simp [go_sem]
  have k3 : ((w.alloc (Obj.cells #[Value.int .i64 x0, Value.int .i64 x1, Value.int .i64 x2, Value.slice a n c] 50)).alloc (Obj.cells #[Value.int .i64 0, Value.int .i64 0, Value.int .i64 0, Value.slice none 0 0] 50)).cell? ⟨w.heap.size, 3, none⟩ = some (.slice a n c) := by simp [go_sem]
  have r0 : ((w.alloc (Obj.cells #[Value.int .i64 x0, Value.int .i64 x1, Value.int .i64 x2, Value.slice a n c] 50)).alloc (Obj.cells #[Value.int .i64 0, Value.int .i64 0, Value.int .i64 0, Value.slice none 0 0] 50)).cell? ⟨w.heap.size + 1, 0, none⟩ = some (.int .i64 0) := by simp [go_sem]
  have r1 : ((w.alloc (Obj.cells #[Value.int .i64 x0, Value.int .i64 x1, Value.int .i64 x2, Value.slice a n c] 50)).alloc (Obj.cells #[Value.int .i64 0, Value.int .i64 0, Value.int .i64 0, Value.slice none 0 0] 50)).cell? ⟨w.heap.size + 1, 1, none⟩ = some (.int .i64 0) := by simp [go_sem]
  have r2 : ((w.alloc (Obj.cells #[Value.int .i64 x0, Value.int .i64 x1, Value.int .i64 x2, Value.slice a n c] 50)).alloc (Obj.cells #[Value.int .i64 0, Value.int .i64 0, Value.int .i64 0, Value.slice none 0 0] 50)).cell? ⟨w.heap.size + 1, 2, none⟩ = some (.int .i64 0) := by simp [go_sem]
  have r3 : ((w.alloc (Obj.cells #[Value.int .i64 x0, Value.int .i64 x1, Value.int .i64 x2, Value.slice a n c] 50)).alloc (Obj.cells #[Value.int .i64 0, Value.int .i64 0, Value.int .i64 0, Value.slice none 0 0] 50)).cell? ⟨w.heap.size + 1, 3, none⟩ = some (.slice none 0 0) := by simp [go_sem]
  have fr : ∀ q, ((w.alloc (Obj.cells #[Value.int .i64 x0, Value.int .i64 x1, Value.int .i64 x2, Value.slice a n c] 50)).alloc (Obj.cells #[Value.int .i64 0, Value.int .i64 0, Value.int .i64 0, Value.slice none 0 0] 50)).frozen? ⟨w.heap.size + 1, q, none⟩ = false := fun q => by simp [go_sem]
  have hs2 : ((w.alloc (Obj.cells #[Value.int .i64 x0, Value.int .i64 x1, Value.int .i64 x2, Value.slice a n c] 50)).alloc (Obj.cells #[Value.int .i64 0, Value.int .i64 0, Value.int .i64 0, Value.slice none 0 0] 50)).heap.size = w.heap.size + 1 + 1 := by simp only [World.size_alloc]
  have HC := Lib.hid hc
  clear hc
  obtain ⟨β, hβ⟩ : ∃ β, Hid (β = afterV x0 x2 zs n (n : Int)) := ⟨_, Lib.hid rfl⟩
  rw [← hβ.out]
  go_enter Tryz.func50, Tryz.ntmps50
  go_wp2_with fail
  refine wp_region_wks (fun w' => Mk0 ((w.alloc (Obj.cells #[Value.int .i64 x0, Value.int .i64 x1, Value.int .i64 x2, Value.slice a n c] 50)).alloc (Obj.cells #[Value.int .i64 0, Value.int .i64 0, Value.int .i64 0, Value.slice none 0 0] 50)) w' ∧ w'.cell? ⟨w.heap.size, 0, none⟩ = some (.int .i64 x0) ∧ w'.cell? ⟨w.heap.size, 1, none⟩ = some (.int .i64 x1) ∧ w'.cell? ⟨w.heap.size, 2, none⟩ = some (.int .i64 x2) ∧ w'.cell? ⟨w.heap.size, 3, none⟩ = some (.slice a n c) ∧ w'.cell? ⟨w.heap.size + 1, 0, none⟩ = some (.int .i64 0) ∧ w'.cell? ⟨w.heap.size + 1, 1, none⟩ = some (.int .i64 0) ∧ w'.cell? ⟨w.heap.size + 1, 2, none⟩ = some (.int .i64 0) ∧ w'.cell? ⟨w.heap.size + 1, 3, none⟩ = some (.slice none 0 0)) 12 13 (by kernel_rfl) (by kernel_rfl) (by kernel_rfl) (by decide) (by decide) (⟨Mk.drew1 _, k0, k1, k2, k3, r0, r1, r2, r3⟩) ?_
  change WkS _ _ _ _ _ _ 12 0 _
  first | (refine WkS.skip (m := 11) (k := 0) rfl (by rfl) ?_) | (refine WkS.pure (m := 11) (k := 0) (v := _) rfl (by rfl) (fun wv => by go_simp; try with_reducible rfl) ?_) | (refine WkS.step (m := 11) (k := 0) (v := _) rfl (by rfl) (by kernel_rfl) (fun wv hS => by obtain ⟨s0, s1, s2, s3, s4, s5, s6, s7, s8⟩ := hS; go_simp; try with_reducible rfl) ?_)
  try simp only [Act.put, List.getElem_toArray, List.getElem_cons_zero, List.setIfInBounds_toArray, List.set_cons_zero, List.set_cons_succ]
  first | (refine WkS.skip (m := 10) (k := 1) rfl (by rfl) ?_) | (refine WkS.pure (m := 10) (k := 1) (v := _) rfl (by rfl) (fun wv => by go_simp; try with_reducible rfl) ?_) | (refine WkS.step (m := 10) (k := 1) (v := _) rfl (by rfl) (by kernel_rfl) (fun wv hS => by obtain ⟨s0, s1, s2, s3, s4, s5, s6, s7, s8⟩ := hS; go_simp; try with_reducible rfl) ?_)
  try simp only [Act.put, List.getElem_toArray, List.getElem_cons_succ, List.getElem_cons_zero, List.setIfInBounds_toArray, List.set_cons_zero, List.set_cons_succ]
  refine WkS.call (m := 9) (k := 2) (v := .int .i64 (rkV x0)) _ _ rfl (by rfl) (by kernel_rfl) (fun wv hS => by obtain ⟨s0, s1, s2, s3, s4, s5, s6, s7, s8⟩ := hS; go_simp; first | done | exact ⟨rfl, rfl⟩ | with_reducible rfl) (fun wv hS => ?_) ?_; · obtain ⟨s0, s1, s2, s3, s4, s5, s6, s7, s8⟩ := hS; refine (implRK x0 wv).mono ?_; rintro e w' ⟨he, rfl⟩; exact ⟨he, ⟨s0, s1, s2, s3, s4, s5, s6, s7, s8⟩, Mk.refl _ _ _⟩
  try simp only [Act.put, List.getElem_toArray, List.getElem_cons_succ, List.getElem_cons_zero, List.setIfInBounds_toArray, List.set_cons_zero, List.set_cons_succ]
  first | (refine WkS.skip (m := 8) (k := 3) rfl (by rfl) ?_) | (refine WkS.pure (m := 8) (k := 3) (v := _) rfl (by rfl) (fun wv => by go_simp; try with_reducible rfl) ?_) | (refine WkS.step (m := 8) (k := 3) (v := _) rfl (by rfl) (by kernel_rfl) (fun wv hS => by obtain ⟨s0, s1, s2, s3, s4, s5, s6, s7, s8⟩ := hS; go_simp; try with_reducible rfl) ?_)
  try simp only [Act.put, List.getElem_toArray, List.getElem_cons_succ, List.getElem_cons_zero, List.setIfInBounds_toArray, List.set_cons_zero, List.set_cons_succ]
  first | (refine WkS.skip (m := 7) (k := 4) rfl (by rfl) ?_) | (refine WkS.pure (m := 7) (k := 4) (v := _) rfl (by rfl) (fun wv => by go_simp; try with_reducible rfl) ?_) | (refine WkS.step (m := 7) (k := 4) (v := _) rfl (by rfl) (by kernel_rfl) (fun wv hS => by obtain ⟨s0, s1, s2, s3, s4, s5, s6, s7, s8⟩ := hS; go_simp; try with_reducible rfl) ?_)
  try simp only [Act.put, List.getElem_toArray, List.getElem_cons_succ, List.getElem_cons_zero, List.setIfInBounds_toArray, List.set_cons_zero, List.set_cons_succ]
  first | (refine WkS.skip (m := 6) (k := 5) rfl (by rfl) ?_) | (refine WkS.pure (m := 6) (k := 5) (v := _) rfl (by rfl) (fun wv => by go_simp; try with_reducible rfl) ?_) | (refine WkS.step (m := 6) (k := 5) (v := _) rfl (by rfl) (by kernel_rfl) (fun wv hS => by obtain ⟨s0, s1, s2, s3, s4, s5, s6, s7, s8⟩ := hS; go_simp; try with_reducible rfl) ?_)
  try simp only [Act.put, List.getElem_toArray, List.getElem_cons_succ, List.getElem_cons_zero, List.setIfInBounds_toArray, List.set_cons_zero, List.set_cons_succ]
  first | (refine WkS.skip (m := 5) (k := 6) rfl (by rfl) ?_) | (refine WkS.pure (m := 5) (k := 6) (v := _) rfl (by rfl) (fun wv => by go_simp; try with_reducible rfl) ?_) | (refine WkS.step (m := 5) (k := 6) (v := _) rfl (by rfl) (by kernel_rfl) (fun wv hS => by obtain ⟨s0, s1, s2, s3, s4, s5, s6, s7, s8⟩ := hS; go_simp; try with_reducible rfl) ?_)
  try simp only [Act.put, List.getElem_toArray, List.getElem_cons_succ, List.getElem_cons_zero, List.setIfInBounds_toArray, List.set_cons_zero, List.set_cons_succ]
  first | (refine WkS.skip (m := 4) (k := 7) rfl (by rfl) ?_) | (refine WkS.pure (m := 4) (k := 7) (v := _) rfl (by rfl) (fun wv => by go_simp; try with_reducible rfl) ?_) | (refine WkS.step (m := 4) (k := 7) (v := _) rfl (by rfl) (by kernel_rfl) (fun wv hS => by obtain ⟨s0, s1, s2, s3, s4, s5, s6, s7, s8⟩ := hS; go_simp; try with_reducible rfl) ?_)
  try simp only [Act.put, List.getElem_toArray, List.getElem_cons_succ, List.getElem_cons_zero, List.setIfInBounds_toArray, List.set_cons_zero, List.set_cons_succ]
  first | (refine WkS.skip (m := 3) (k := 8) rfl (by rfl) ?_) | (refine WkS.pure (m := 3) (k := 8) (v := _) rfl (by rfl) (fun wv => by go_simp; try with_reducible rfl) ?_) | (refine WkS.step (m := 3) (k := 8) (v := _) rfl (by rfl) (by kernel_rfl) (fun wv hS => by obtain ⟨s0, s1, s2, s3, s4, s5, s6, s7, s8⟩ := hS; go_simp; try with_reducible rfl) ?_)
  try simp only [Act.put, List.getElem_toArray, List.getElem_cons_succ, List.getElem_cons_zero, List.setIfInBounds_toArray, List.set_cons_zero, List.set_cons_succ]
  refine WkS.call (m := 2) (k := 9) (v := .int .i64 β) _ _ rfl (by rfl) (by kernel_rfl) (fun wv hS => by obtain ⟨s0, s1, s2, s3, s4, s5, s6, s7, s8⟩ := hS; go_simp; first | done | exact ⟨rfl, rfl⟩ | with_reducible rfl) (fun wv hS => ?_) ?_; · obtain ⟨s0, s1, s2, s3, s4, s5, s6, s7, s8⟩ := hS; refine (implAfter x0 x1 x2 a n c B zs _ wv (h.mk (M0.trans s0) hB (.inr (Nat.le_refl _))) (Nat.le_trans hB (M0.trans s0).size) hn HC.out).mono ?_; rintro e w' ⟨he, mm⟩; exact ⟨by rw [he, hβ.out], ⟨s0.trans mm, mm.cellAt s1, mm.cellAt s2, mm.cellAt s3, mm.cellAt s4, mm.cellAt s5, mm.cellAt s6, mm.cellAt s7, mm.cellAt s8⟩, mm⟩
  try simp only [Act.put, List.getElem_toArray, List.getElem_cons_succ, List.getElem_cons_zero, List.setIfInBounds_toArray, List.set_cons_zero, List.set_cons_succ]
  first | (refine WkS.skip (m := 1) (k := 10) rfl (by rfl) ?_) | (refine WkS.pure (m := 1) (k := 10) (v := _) rfl (by rfl) (fun wv => by go_simp; try with_reducible rfl) ?_) | (refine WkS.step (m := 1) (k := 10) (v := _) rfl (by rfl) (by kernel_rfl) (fun wv hS => by obtain ⟨s0, s1, s2, s3, s4, s5, s6, s7, s8⟩ := hS; go_simp; try with_reducible rfl) ?_)
  try simp only [Act.put, List.getElem_toArray, List.getElem_cons_succ, List.getElem_cons_zero, List.setIfInBounds_toArray, List.set_cons_zero, List.set_cons_succ]
  first | (refine WkS.skip (m := 0) (k := 11) rfl (by rfl) ?_) | (refine WkS.pure (m := 0) (k := 11) (v := _) rfl (by rfl) (fun wv => by go_simp; try with_reducible rfl) ?_) | (refine WkS.step (m := 0) (k := 11) (v := _) rfl (by rfl) (by kernel_rfl) (fun wv hS => by obtain ⟨s0, s1, s2, s3, s4, s5, s6, s7, s8⟩ := hS; go_simp; try with_reducible rfl) ?_)
  try simp only [Act.put, List.getElem_toArray, List.getElem_cons_succ, List.getElem_cons_zero, List.setIfInBounds_toArray, List.set_cons_zero, List.set_cons_succ]
  refine WkS.done fun wE hE => ?_
  clear k0 k1 k2 k3 r0 r1 r2 r3
  obtain ⟨mE, k0, k1, k2, k3, r0, r1, r2, r3⟩ := hE
  have zE0 := mE.size
  change wpSoft _ _ _ _ 13 1 _ _
  refine wpSoft.call (n := 0) _ _ rfl (by rfl) (by go_simp; first | done | exact ⟨rfl, rfl⟩ | with_reducible rfl) ?_
  refine (turnedHop (fun x => x) 73 a n c B zs _ (h.mk (M0.trans mE) hB (.inr (Nat.le_refl _))) (Nat.le_trans hB (M0.trans mE).size) hn (fun _ _ => rfl) (fun x w1 => implTurnH x w1)).mono ?_
  rintro e wF0 ⟨A, N, C, rfl, hcc, o3, m3⟩
  refine ⟨_, rfl, ⟨mE.trans (m3), (m3).cellAt k0, (m3).cellAt k1, (m3).cellAt k2, (m3).cellAt k3, (m3).cellAt r0, (m3).cellAt r1, (m3).cellAt r2, (m3).cellAt r3⟩, ?_⟩
  intro wG0 mG0 hG0
  clear mE k0 k1 k2 k3 r0 r1 r2 r3
  obtain ⟨mE, k0, k1, k2, k3, r0, r1, r2, r3⟩ := hG0
  replace o3 := o3.mk mG0 (Nat.le_refl _) (.inr (.inr (Nat.le_refl _)))
  have zE0 := m3.size
  have zG := mG0.size
  try simp only [Act.put, List.getElem_toArray, List.getElem_cons_succ, List.getElem_cons_zero, List.setIfInBounds_toArray, List.set_cons_zero, List.set_cons_succ]
  refine wpSoft.done ?_
  simp only [List.drop_succ_cons, List.drop_zero]
  have fr3 : ∀ q, wG0.frozen? ⟨w.heap.size + 1, q, none⟩ = false := fun q => (mE.frozen (b := w.heap.size + 1) (o := q) (by omega) (.inr (Nat.zero_le _))).trans (fr q)
  have MF := M0.trans mE
  skip
  go_wp2_with fail
  try simp only [noPan]
  try (go_wp2_with fail)
  replace r0 := World.cell?_setCell_same _ _ (.int .i64 (rkV x0)) r0
  replace r1 := cell_set r1 ⟨w.heap.size + 1, 0, none⟩ (.int .i64 (rkV x0)) (.inr (by simp))
  replace r2 := cell_set r2 ⟨w.heap.size + 1, 0, none⟩ (.int .i64 (rkV x0)) (.inr (by simp))
  replace r3 := cell_set r3 ⟨w.heap.size + 1, 0, none⟩ (.int .i64 (rkV x0)) (.inr (by simp))
  replace o3 := o3.set ⟨w.heap.size + 1, 0, none⟩ (.int .i64 (rkV x0)) (.inl (show w.heap.size + 1 < _ from by omega))
  replace MF := MF.put ⟨w.heap.size + 1, 0, none⟩ (.int .i64 (rkV x0)) (show w.heap.size ≤ w.heap.size + 1 from by omega)
  replace r0 := cell_set r0 ⟨w.heap.size + 1, 1, none⟩ (.int .i64 x1) (.inr (by simp))
  replace r1 := World.cell?_setCell_same _ _ (.int .i64 x1) r1
  replace r2 := cell_set r2 ⟨w.heap.size + 1, 1, none⟩ (.int .i64 x1) (.inr (by simp))
  replace r3 := cell_set r3 ⟨w.heap.size + 1, 1, none⟩ (.int .i64 x1) (.inr (by simp))
  replace o3 := o3.set ⟨w.heap.size + 1, 1, none⟩ (.int .i64 x1) (.inl (show w.heap.size + 1 < _ from by omega))
  replace MF := MF.put ⟨w.heap.size + 1, 1, none⟩ (.int .i64 x1) (show w.heap.size ≤ w.heap.size + 1 from by omega)
  replace r0 := cell_set r0 ⟨w.heap.size + 1, 2, none⟩ (.int .i64 β) (.inr (by simp))
  replace r1 := cell_set r1 ⟨w.heap.size + 1, 2, none⟩ (.int .i64 β) (.inr (by simp))
  replace r2 := World.cell?_setCell_same _ _ (.int .i64 β) r2
  replace r3 := cell_set r3 ⟨w.heap.size + 1, 2, none⟩ (.int .i64 β) (.inr (by simp))
  replace o3 := o3.set ⟨w.heap.size + 1, 2, none⟩ (.int .i64 β) (.inl (show w.heap.size + 1 < _ from by omega))
  replace MF := MF.put ⟨w.heap.size + 1, 2, none⟩ (.int .i64 β) (show w.heap.size ≤ w.heap.size + 1 from by omega)
  replace r0 := cell_set r0 ⟨w.heap.size + 1, 3, none⟩ (.slice A N C) (.inr (by simp))
  replace r1 := cell_set r1 ⟨w.heap.size + 1, 3, none⟩ (.slice A N C) (.inr (by simp))
  replace r2 := cell_set r2 ⟨w.heap.size + 1, 3, none⟩ (.slice A N C) (.inr (by simp))
  replace r3 := World.cell?_setCell_same _ _ (.slice A N C) r3
  replace o3 := o3.set ⟨w.heap.size + 1, 3, none⟩ (.slice A N C) (.inl (show w.heap.size + 1 < _ from by omega))
  replace MF := MF.put ⟨w.heap.size + 1, 3, none⟩ (.slice A N C) (show w.heap.size ≤ w.heap.size + 1 from by omega)
  have zF : ((((wG0.setCell ⟨w.heap.size + 1, 0, none⟩ (.int .i64 (rkV x0))).setCell ⟨w.heap.size + 1, 1, none⟩ (.int .i64 x1)).setCell ⟨w.heap.size + 1, 2, none⟩ (.int .i64 β)).setCell ⟨w.heap.size + 1, 3, none⟩ (.slice A N C)).heap.size = wG0.heap.size := by simp [World.setCell]
  generalize ((((wG0.setCell ⟨w.heap.size + 1, 0, none⟩ (.int .i64 (rkV x0))).setCell ⟨w.heap.size + 1, 1, none⟩ (.int .i64 x1)).setCell ⟨w.heap.size + 1, 2, none⟩ (.int .i64 β)).setCell ⟨w.heap.size + 1, 3, none⟩ (.slice A N C)) = WF at *
  refine bodyPost_ret (v := .agg #[.int .i64 (rkV x0), .int .i64 x1, .int .i64 β, .slice A N C]) (by simp [results, Tryz.results50, go_sem, r0, r1, r2, r3]) rfl ⟨_, _, _, rfl, hcc, ?_, MF⟩
  exact o3.wide (by omega) (by omega)

set_option maxRecDepth 100000 in
set_option maxHeartbeats 4000000 in
theorem specRevPt (x0 x1 x2 : Int) (a : Option Addr) (n c B : Nat) (zs : List THop) (w : World) (h : HasHop w B a n zs) (hB : B ≤ w.heap.size) (hn : n ≤ 1048576) (hc : n ≤ c) :
    Calls Tryz.prog 48 #[.agg #[.int .i64 x0, .int .i64 x1, .int .i64 x2, .slice a n c]] w (OutCPathPart (rkV x0) x1 (afterV x0 x2 zs n (n : Int)) (turnP zs n) w) := by
  obtain ⟨i0, hi0, hz0, hz1, hz2⟩ := info_parts infoRHop
  have M0 := (Mk.alloc w (Obj.cells #[Value.int .i64 x0, Value.int .i64 x1, Value.int .i64 x2, Value.slice a n c] 50)).new (Obj.cells #[Value.int .i64 0, Value.int .i64 0, Value.int .i64 0, Value.slice none 0 0] 50)
  have k0 : ((w.alloc (Obj.cells #[Value.int .i64 x0, Value.int .i64 x1, Value.int .i64 x2, Value.slice a n c] 50)).alloc (Obj.cells #[Value.int .i64 0, Value.int .i64 0, Value.int .i64 0, Value.slice none 0 0] 50)).cell? ⟨w.heap.size, 0, none⟩ = some (.int .i64 x0) := by simp [go_sem]
  have k1 : ((w.alloc (Obj.cells #[Value.int .i64 x0, Value.int .i64 x1, Value.int .i64 x2, Value.slice a n c] 50)).alloc (Obj.cells #[Value.int .i64 0, Value.int .i64 0, Value.int .i64 0, Value.slice none 0 0] 50)).cell? ⟨w.heap.size, 1, none⟩ = some (.int .i64 x1) := by simp [go_sem]
  have k2 : ((w.alloc (Obj.cells #[Value.int .i64 x0, Value.int .i64 x1, Value.int .i64 x2, Value.slice a n c] 50)).alloc (Obj.cells #[Value.int .i64 0, Value.int .i64 0, Value.int .i64 0, Value.slice none 0 0] 50)).cell? ⟨w.heap.size, 2, none⟩ = some (.int .i64 x2) := by simp [go_sem]
  have k3 : ((w.alloc (Obj.cells #[Value.int .i64 x0, Value.int .i64 x1, Value.int .i64 x2, Value.slice a n c] 50)).alloc (Obj.cells #[Value.int .i64 0, Value.int .i64 0, Value.int .i64 0, Value.slice none 0 0] 50)).cell? ⟨w.heap.size, 3, none⟩ = some (.slice a n c) := by simp [go_sem]
  have r0 : ((w.alloc (Obj.cells #[Value.int .i64 x0, Value.int .i64 x1, Value.int .i64 x2, Value.slice a n c] 50)).alloc (Obj.cells #[Value.int .i64 0, Value.int .i64 0, Value.int .i64 0, Value.slice none 0 0] 50)).cell? ⟨w.heap.size + 1, 0, none⟩ = some (.int .i64 0) := by simp [go_sem]
  have r1 : ((w.alloc (Obj.cells #[Value.int .i64 x0, Value.int .i64 x1, Value.int .i64 x2, Value.slice a n c] 50)).alloc (Obj.cells #[Value.int .i64 0, Value.int .i64 0, Value.int .i64 0, Value.slice none 0 0] 50)).cell? ⟨w.heap.size + 1, 1, none⟩ = some (.int .i64 0) := by simp [go_sem]
  have r2 : ((w.alloc (Obj.cells #[Value.int .i64 x0, Value.int .i64 x1, Value.int .i64 x2, Value.slice a n c] 50)).alloc (Obj.cells #[Value.int .i64 0, Value.int .i64 0, Value.int .i64 0, Value.slice none 0 0] 50)).cell? ⟨w.heap.size + 1, 2, none⟩ = some (.int .i64 0) := by simp [go_sem]
  have r3 : ((w.alloc (Obj.cells #[Value.int .i64 x0, Value.int .i64 x1, Value.int .i64 x2, Value.slice a n c] 50)).alloc (Obj.cells #[Value.int .i64 0, Value.int .i64 0, Value.int .i64 0, Value.slice none 0 0] 50)).cell? ⟨w.heap.size + 1, 3, none⟩ = some (.slice none 0 0) := by simp [go_sem]
  have fr : ∀ q, ((w.alloc (Obj.cells #[Value.int .i64 x0, Value.int .i64 x1, Value.int .i64 x2, Value.slice a n c] 50)).alloc (Obj.cells #[Value.int .i64 0, Value.int .i64 0, Value.int .i64 0, Value.slice none 0 0] 50)).frozen? ⟨w.heap.size + 1, q, none⟩ = false := fun q => by simp [go_sem]
  have hs2 : ((w.alloc (Obj.cells #[Value.int .i64 x0, Value.int .i64 x1, Value.int .i64 x2, Value.slice a n c] 50)).alloc (Obj.cells #[Value.int .i64 0, Value.int .i64 0, Value.int .i64 0, Value.slice none 0 0] 50)).heap.size = w.heap.size + 1 + 1 := by simp only [World.size_alloc]
  have HC := Lib.hid hc
  clear hc
  obtain ⟨β, hβ⟩ : ∃ β, Hid (β = afterV x0 x2 zs n (n : Int)) := ⟨_, Lib.hid rfl⟩
  rw [← hβ.out]
  go_enter Tryz.func48, Tryz.ntmps48
  go_wp2_with fail
  have K3 := Lib.hid k3
  have R0 := Lib.hid r0
  have R1 := Lib.hid r1
  have R2 := Lib.hid r2
  have R3 := Lib.hid r3
  have FRE := Lib.hid fr
  clear fr
  refine wp_region_wks (fun w' => Mk0 ((w.alloc (Obj.cells #[Value.int .i64 x0, Value.int .i64 x1, Value.int .i64 x2, Value.slice a n c] 50)).alloc (Obj.cells #[Value.int .i64 0, Value.int .i64 0, Value.int .i64 0, Value.slice none 0 0] 50)) w' ∧ w'.cell? ⟨w.heap.size, 0, none⟩ = some (.int .i64 x0) ∧ w'.cell? ⟨w.heap.size, 1, none⟩ = some (.int .i64 x1) ∧ w'.cell? ⟨w.heap.size, 2, none⟩ = some (.int .i64 x2) ∧ w'.cell? ⟨w.heap.size, 3, none⟩ = some (.slice a n c) ∧ w'.cell? ⟨w.heap.size + 1, 0, none⟩ = some (.int .i64 0) ∧ w'.cell? ⟨w.heap.size + 1, 1, none⟩ = some (.int .i64 0) ∧ w'.cell? ⟨w.heap.size + 1, 2, none⟩ = some (.int .i64 0) ∧ w'.cell? ⟨w.heap.size + 1, 3, none⟩ = some (.slice none 0 0)) 11 12 (by kernel_rfl) (by kernel_rfl) (by kernel_rfl) (by decide) (by decide) (⟨Mk.drew1 _, k0, k1, k2, k3, r0, r1, r2, r3⟩) ?_
  change WkS _ _ _ _ _ _ 11 0 _
  first | (refine WkS.skip (m := 10) (k := 0) rfl (by rfl) ?_) | (refine WkS.pure (m := 10) (k := 0) (v := _) rfl (by rfl) (fun wv => by go_simp; try with_reducible rfl) ?_) | (refine WkS.step (m := 10) (k := 0) (v := _) rfl (by rfl) (by kernel_rfl) (fun wv hS => by obtain ⟨s0, s1, s2, s3, s4, s5, s6, s7, s8⟩ := hS; go_simp; try with_reducible rfl) ?_)
  try simp only [Act.put, List.getElem_toArray, List.getElem_cons_zero, List.setIfInBounds_toArray, List.set_cons_zero, List.set_cons_succ]
  first | (refine WkS.skip (m := 9) (k := 1) rfl (by rfl) ?_) | (refine WkS.pure (m := 9) (k := 1) (v := _) rfl (by rfl) (fun wv => by go_simp; try with_reducible rfl) ?_) | (refine WkS.step (m := 9) (k := 1) (v := _) rfl (by rfl) (by kernel_rfl) (fun wv hS => by obtain ⟨s0, s1, s2, s3, s4, s5, s6, s7, s8⟩ := hS; go_simp; try with_reducible rfl) ?_)
  try simp only [Act.put, List.getElem_toArray, List.getElem_cons_succ, List.getElem_cons_zero, List.setIfInBounds_toArray, List.set_cons_zero, List.set_cons_succ]
  refine WkS.call (m := 8) (k := 2) (v := .int .i64 (rkV x0)) _ _ rfl (by rfl) (by kernel_rfl) (fun wv hS => by obtain ⟨s0, s1, s2, s3, s4, s5, s6, s7, s8⟩ := hS; go_simp; first | done | exact ⟨rfl, rfl⟩ | with_reducible rfl) (fun wv hS => ?_) ?_; · obtain ⟨s0, s1, s2, s3, s4, s5, s6, s7, s8⟩ := hS; refine (specRK x0 wv).mono ?_; rintro e w' ⟨he, rfl⟩; exact ⟨he, ⟨s0, s1, s2, s3, s4, s5, s6, s7, s8⟩, Mk.refl _ _ _⟩
  try simp only [Act.put, List.getElem_toArray, List.getElem_cons_succ, List.getElem_cons_zero, List.setIfInBounds_toArray, List.set_cons_zero, List.set_cons_succ]
  first | (refine WkS.skip (m := 7) (k := 3) rfl (by rfl) ?_) | (refine WkS.pure (m := 7) (k := 3) (v := _) rfl (by rfl) (fun wv => by go_simp; try with_reducible rfl) ?_) | (refine WkS.step (m := 7) (k := 3) (v := _) rfl (by rfl) (by kernel_rfl) (fun wv hS => by obtain ⟨s0, s1, s2, s3, s4, s5, s6, s7, s8⟩ := hS; go_simp; try with_reducible rfl) ?_)
  try simp only [Act.put, List.getElem_toArray, List.getElem_cons_succ, List.getElem_cons_zero, List.setIfInBounds_toArray, List.set_cons_zero, List.set_cons_succ]
  first | (refine WkS.skip (m := 6) (k := 4) rfl (by rfl) ?_) | (refine WkS.pure (m := 6) (k := 4) (v := _) rfl (by rfl) (fun wv => by go_simp; try with_reducible rfl) ?_) | (refine WkS.step (m := 6) (k := 4) (v := _) rfl (by rfl) (by kernel_rfl) (fun wv hS => by obtain ⟨s0, s1, s2, s3, s4, s5, s6, s7, s8⟩ := hS; go_simp; try with_reducible rfl) ?_)
  try simp only [Act.put, List.getElem_toArray, List.getElem_cons_succ, List.getElem_cons_zero, List.setIfInBounds_toArray, List.set_cons_zero, List.set_cons_succ]
  first | (refine WkS.skip (m := 5) (k := 5) rfl (by rfl) ?_) | (refine WkS.pure (m := 5) (k := 5) (v := _) rfl (by rfl) (fun wv => by go_simp; try with_reducible rfl) ?_) | (refine WkS.step (m := 5) (k := 5) (v := _) rfl (by rfl) (by kernel_rfl) (fun wv hS => by obtain ⟨s0, s1, s2, s3, s4, s5, s6, s7, s8⟩ := hS; go_simp; try with_reducible rfl) ?_)
  try simp only [Act.put, List.getElem_toArray, List.getElem_cons_succ, List.getElem_cons_zero, List.setIfInBounds_toArray, List.set_cons_zero, List.set_cons_succ]
  first | (refine WkS.skip (m := 4) (k := 6) rfl (by rfl) ?_) | (refine WkS.pure (m := 4) (k := 6) (v := _) rfl (by rfl) (fun wv => by go_simp; try with_reducible rfl) ?_) | (refine WkS.step (m := 4) (k := 6) (v := _) rfl (by rfl) (by kernel_rfl) (fun wv hS => by obtain ⟨s0, s1, s2, s3, s4, s5, s6, s7, s8⟩ := hS; go_simp; try with_reducible rfl) ?_)
  try simp only [Act.put, List.getElem_toArray, List.getElem_cons_succ, List.getElem_cons_zero, List.setIfInBounds_toArray, List.set_cons_zero, List.set_cons_succ]
  first | (refine WkS.skip (m := 3) (k := 7) rfl (by rfl) ?_) | (refine WkS.pure (m := 3) (k := 7) (v := _) rfl (by rfl) (fun wv => by go_simp; try with_reducible rfl) ?_) | (refine WkS.step (m := 3) (k := 7) (v := _) rfl (by rfl) (by kernel_rfl) (fun wv hS => by obtain ⟨s0, s1, s2, s3, s4, s5, s6, s7, s8⟩ := hS; go_simp; try with_reducible rfl) ?_)
  try simp only [Act.put, List.getElem_toArray, List.getElem_cons_succ, List.getElem_cons_zero, List.setIfInBounds_toArray, List.set_cons_zero, List.set_cons_succ]
  first | (refine WkS.skip (m := 2) (k := 8) rfl (by rfl) ?_) | (refine WkS.pure (m := 2) (k := 8) (v := _) rfl (by rfl) (fun wv => by go_simp; try with_reducible rfl) ?_) | (refine WkS.step (m := 2) (k := 8) (v := _) rfl (by rfl) (by kernel_rfl) (fun wv hS => by obtain ⟨s0, s1, s2, s3, s4, s5, s6, s7, s8⟩ := hS; go_simp; try with_reducible rfl) ?_)
  try simp only [Act.put, List.getElem_toArray, List.getElem_cons_succ, List.getElem_cons_zero, List.setIfInBounds_toArray, List.set_cons_zero, List.set_cons_succ]
  refine WkS.call (m := 1) (k := 9) (v := .int .i64 β) _ _ rfl (by rfl) (by kernel_rfl) (fun wv hS => by obtain ⟨s0, s1, s2, s3, s4, s5, s6, s7, s8⟩ := hS; go_simp; first | done | exact ⟨rfl, rfl⟩ | with_reducible rfl) (fun wv hS => ?_) ?_; · obtain ⟨s0, s1, s2, s3, s4, s5, s6, s7, s8⟩ := hS; refine (specAfter x0 x1 x2 a n c B zs _ wv (h.mk (M0.trans s0) hB (.inr (Nat.le_refl _))) (Nat.le_trans hB (M0.trans s0).size) hn).mono ?_; rintro e w' ⟨he, mm⟩; exact ⟨by rw [he, hβ.out], ⟨s0.trans mm, mm.cellAt s1, mm.cellAt s2, mm.cellAt s3, mm.cellAt s4, mm.cellAt s5, mm.cellAt s6, mm.cellAt s7, mm.cellAt s8⟩, mm⟩
  try simp only [Act.put, List.getElem_toArray, List.getElem_cons_succ, List.getElem_cons_zero, List.setIfInBounds_toArray, List.set_cons_zero, List.set_cons_succ]
  first | (refine WkS.skip (m := 0) (k := 10) rfl (by rfl) ?_) | (refine WkS.pure (m := 0) (k := 10) (v := _) rfl (by rfl) (fun wv => by go_simp; try with_reducible rfl) ?_) | (refine WkS.step (m := 0) (k := 10) (v := _) rfl (by rfl) (by kernel_rfl) (fun wv hS => by obtain ⟨s0, s1, s2, s3, s4, s5, s6, s7, s8⟩ := hS; go_simp; try with_reducible rfl) ?_)
  try simp only [Act.put, List.getElem_toArray, List.getElem_cons_succ, List.getElem_cons_zero, List.setIfInBounds_toArray, List.set_cons_zero, List.set_cons_succ]
  refine WkS.done fun wE hE => ?_
  clear k0 k1 k2 k3 r0 r1 r2 r3
  obtain ⟨mE, k0, k1, k2, k3, r0, r1, r2, r3⟩ := hE
  have zE0 := mE.size
  change wpSoft _ _ _ _ 12 1 _ _
  refine wpSoft.value (n := 0) (w1 := (wE.alloc (Obj.cells #[Value.int .i64 0, Value.int .i64 0, Value.int .i64 0, Value.slice none 0 0] 50))) _ rfl (by rfl) (by go_simp; first | done | exact ⟨rfl, rfl⟩ | with_reducible rfl) ⟨mE.trans (Mk.alloc wE (Obj.cells #[Value.int .i64 0, Value.int .i64 0, Value.int .i64 0, Value.slice none 0 0] 50)), (Mk.alloc wE (Obj.cells #[Value.int .i64 0, Value.int .i64 0, Value.int .i64 0, Value.slice none 0 0] 50)).cellAt k0, (Mk.alloc wE (Obj.cells #[Value.int .i64 0, Value.int .i64 0, Value.int .i64 0, Value.slice none 0 0] 50)).cellAt k1, (Mk.alloc wE (Obj.cells #[Value.int .i64 0, Value.int .i64 0, Value.int .i64 0, Value.slice none 0 0] 50)).cellAt k2, (Mk.alloc wE (Obj.cells #[Value.int .i64 0, Value.int .i64 0, Value.int .i64 0, Value.slice none 0 0] 50)).cellAt k3, (Mk.alloc wE (Obj.cells #[Value.int .i64 0, Value.int .i64 0, Value.int .i64 0, Value.slice none 0 0] 50)).cellAt r0, (Mk.alloc wE (Obj.cells #[Value.int .i64 0, Value.int .i64 0, Value.int .i64 0, Value.slice none 0 0] 50)).cellAt r1, (Mk.alloc wE (Obj.cells #[Value.int .i64 0, Value.int .i64 0, Value.int .i64 0, Value.slice none 0 0] 50)).cellAt r2, (Mk.alloc wE (Obj.cells #[Value.int .i64 0, Value.int .i64 0, Value.int .i64 0, Value.slice none 0 0] 50)).cellAt r3⟩ ?_
  have q0 : (wE.alloc (Obj.cells #[Value.int .i64 0, Value.int .i64 0, Value.int .i64 0, Value.slice none 0 0] 50)).cell? ⟨wE.heap.size, 0, none⟩ = some (.int .i64 0) := by simp [go_sem]
  have q1 : (wE.alloc (Obj.cells #[Value.int .i64 0, Value.int .i64 0, Value.int .i64 0, Value.slice none 0 0] 50)).cell? ⟨wE.heap.size, 1, none⟩ = some (.int .i64 0) := by simp [go_sem]
  have q2 : (wE.alloc (Obj.cells #[Value.int .i64 0, Value.int .i64 0, Value.int .i64 0, Value.slice none 0 0] 50)).cell? ⟨wE.heap.size, 2, none⟩ = some (.int .i64 0) := by simp [go_sem]
  have q3 : (wE.alloc (Obj.cells #[Value.int .i64 0, Value.int .i64 0, Value.int .i64 0, Value.slice none 0 0] 50)).cell? ⟨wE.heap.size, 3, none⟩ = some (.slice none 0 0) := by simp [go_sem]
  have fq : ∀ q, (wE.alloc (Obj.cells #[Value.int .i64 0, Value.int .i64 0, Value.int .i64 0, Value.slice none 0 0] 50)).frozen? ⟨wE.heap.size, q, none⟩ = false := fun q => by simp [go_sem]
  intro wG0 mG0 hG0
  clear mE k0 k1 k2 k3 r0 r1 r2 r3
  obtain ⟨mE, k0, k1, k2, k3, r0, r1, r2, r3⟩ := hG0
  replace q0 := mG0.cellAt q0
  replace q1 := mG0.cellAt q1
  replace q2 := mG0.cellAt q2
  replace q3 := mG0.cellAt q3
  replace fq := fun q => (mG0.frozen (b := wE.heap.size) (o := q) (by rw [World.size_alloc]; omega) (.inr (Nat.zero_le _))).trans (fq q)
  try simp only [Act.put, List.getElem_toArray, List.getElem_cons_succ, List.getElem_cons_zero, List.setIfInBounds_toArray, List.set_cons_zero, List.set_cons_succ]
  refine wpSoft.done ?_
  simp only [List.drop_succ_cons, List.drop_zero]
  have hsl : wE.heap.size + 1 ≤ wG0.heap.size := by have := mG0.size; rw [World.size_alloc] at this; exact this
  go_wp2_with fail
  try simp only [noPan]
  try (go_wp2_with fail)
  replace q0 := World.cell?_setCell_same _ _ (.int .i64 (rkV x0)) q0
  replace q1 := cell_set q1 ⟨wE.heap.size, 0, none⟩ (.int .i64 (rkV x0)) (.inr (by simp))
  replace q2 := cell_set q2 ⟨wE.heap.size, 0, none⟩ (.int .i64 (rkV x0)) (.inr (by simp))
  replace q3 := cell_set q3 ⟨wE.heap.size, 0, none⟩ (.int .i64 (rkV x0)) (.inr (by simp))
  replace fq := fun q => frozen_set (fq q) ⟨wE.heap.size, 0, none⟩ (.int .i64 (rkV x0))
  replace mE := mE.put ⟨wE.heap.size, 0, none⟩ (.int .i64 (rkV x0)) zE0
  replace q0 := cell_set q0 ⟨wE.heap.size, 1, none⟩ (.int .i64 x1) (.inr (by simp))
  replace q1 := World.cell?_setCell_same _ _ (.int .i64 x1) q1
  replace q2 := cell_set q2 ⟨wE.heap.size, 1, none⟩ (.int .i64 x1) (.inr (by simp))
  replace q3 := cell_set q3 ⟨wE.heap.size, 1, none⟩ (.int .i64 x1) (.inr (by simp))
  replace fq := fun q => frozen_set (fq q) ⟨wE.heap.size, 1, none⟩ (.int .i64 x1)
  replace mE := mE.put ⟨wE.heap.size, 1, none⟩ (.int .i64 x1) zE0
  replace q0 := cell_set q0 ⟨wE.heap.size, 2, none⟩ (.int .i64 β) (.inr (by simp))
  replace q1 := cell_set q1 ⟨wE.heap.size, 2, none⟩ (.int .i64 β) (.inr (by simp))
  replace q2 := World.cell?_setCell_same _ _ (.int .i64 β) q2
  replace q3 := cell_set q3 ⟨wE.heap.size, 2, none⟩ (.int .i64 β) (.inr (by simp))
  replace fq := fun q => frozen_set (fq q) ⟨wE.heap.size, 2, none⟩ (.int .i64 β)
  replace mE := mE.put ⟨wE.heap.size, 2, none⟩ (.int .i64 β) zE0
  replace q0 := cell_set q0 ⟨wE.heap.size, 3, none⟩ (.slice none 0 0) (.inr (by simp))
  replace q1 := cell_set q1 ⟨wE.heap.size, 3, none⟩ (.slice none 0 0) (.inr (by simp))
  replace q2 := cell_set q2 ⟨wE.heap.size, 3, none⟩ (.slice none 0 0) (.inr (by simp))
  replace q3 := World.cell?_setCell_same _ _ (.slice none 0 0) q3
  replace fq := fun q => frozen_set (fq q) ⟨wE.heap.size, 3, none⟩ (.slice none 0 0)
  replace mE := mE.put ⟨wE.heap.size, 3, none⟩ (.slice none 0 0) zE0
  have hsL : wE.heap.size + 1 ≤ ((((wG0.setCell ⟨wE.heap.size, 0, none⟩ (.int .i64 (rkV x0))).setCell ⟨wE.heap.size, 1, none⟩ (.int .i64 x1)).setCell ⟨wE.heap.size, 2, none⟩ (.int .i64 β)).setCell ⟨wE.heap.size, 3, none⟩ (.slice none 0 0)).heap.size := by simp only [World.size_set]; exact hsl
  generalize ((((wG0.setCell ⟨wE.heap.size, 0, none⟩ (.int .i64 (rkV x0))).setCell ⟨wE.heap.size, 1, none⟩ (.int .i64 x1)).setCell ⟨wE.heap.size, 2, none⟩ (.int .i64 β)).setCell ⟨wE.heap.size, 3, none⟩ (.slice none 0 0)) = wL at *
  clear hsl
  go_loopw [4] (fun i wr => ∃ (k : Nat) (A : Option Addr) (C : Nat), k ≤ n ∧ i = .int .i64 ((n : Int) - 1 - (k : Int)) ∧ (wr.cell? ⟨wE.heap.size, 0, none⟩ = some (.int .i64 (rkV x0)) ∧ wr.cell? ⟨wE.heap.size, 1, none⟩ = some (.int .i64 x1) ∧ wr.cell? ⟨wE.heap.size, 2, none⟩ = some (.int .i64 β) ∧ wr.cell? ⟨wE.heap.size, 3, none⟩ = some (.slice A k C) ∧ ∀ q, wr.frozen? ⟨wE.heap.size, q, none⟩ = false) ∧ wr.ownsRow (wE.heap.size + 1) 53 5 (.slice A k C) k (rowC 5 THop.cell ((turnP zs n).take k)) ∧ Mk0 ((w.alloc (Obj.cells #[Value.int .i64 x0, Value.int .i64 x1, Value.int .i64 x2, Value.slice a n c] 50)).alloc (Obj.cells #[Value.int .i64 0, Value.int .i64 0, Value.int .i64 0, Value.slice none 0 0] 50)) wr ∧ wE.heap.size + 1 ≤ wr.heap.size) (fun i _ => (intOf i + 1).toNat)
  case atStart => exact ⟨0, none, 0, Nat.zero_le _, by simp, ⟨q0, q1, q2, q3, fq⟩, own_nilR _ _ _ _, mE, hsL⟩
  case round =>
    clear q0 q1 q2 q3 fq mE hsL k0 k1 k2 k3 r0 r1 r2 r3
    obtain ⟨k, A, C, hk, rfl, ⟨q0, q1, q2, q3, fq⟩, hown, hM, hsz⟩ := hrel
    have k3 := hM.cellAt K3.out
    have hMW := M0.trans hM
    by_cases hlt : k < n
    · obtain ⟨m, hm⟩ : ∃ m, Hid (n = m + k + 1) := ⟨n - 1 - k, by show n = n - 1 - k + k + 1; omega⟩
      have hmn : m < n := by have := hm.out; omega
      rw [show (n : Int) - 1 - (k : Int) = (m : Int) by have := hm.out; omega]
      obtain ⟨b, off, x, rfl, hb, hx, c0, c1, c2, c3, c4⟩ := HasHop.at _ _ _ _ _ _ (h.mk hMW hB (.inr (Nat.le_refl _))) hmn
      have hbr := World.block_lt_of_cell? _ _ c0
      simp only at hbr
      have HT := Lib.hid (show (turnP zs n).take (k + 1) = (turnP zs n).take k ++ [x] by unfold turnP; rw [turnL_take _ _ _ _ hlt, hx.out, show n - 1 - k = m by have := hm.out; omega])
      have i1 : (0 : Int) ≤ (m : Int) := by omega
      have i2 : (m : Int) < (n : Int) := by omega
      go_wp2_with fail
      refine wp_region_wks (fun w' => Mk0 wr w' ∧ w'.cell? ⟨wE.heap.size, 3, none⟩ = some (.slice A k C) ∧ w'.cell? ⟨w.heap.size, 3, none⟩ = some (.slice (some ⟨b, off, none⟩) n c) ∧ w'.cell? ⟨b, off + m * 5, none⟩ = some (.int .i64 x.nd) ∧ w'.cell? ⟨b, off + m * 5 + 1, none⟩ = some (.int .i64 x.ing) ∧ w'.cell? ⟨b, off + m * 5 + 2, none⟩ = some (.int .i64 x.eg) ∧ w'.cell? ⟨b, off + m * 5 + 3, none⟩ = some (.int .i64 x.exp) ∧ w'.cell? ⟨b, off + m * 5 + 4, none⟩ = some (.int .i64 x.mac)) 7 8 (by kernel_rfl) (by kernel_rfl) (by kernel_rfl) (by decide) (by decide) (⟨Mk.drew1 _, q3, k3, c0, c1, c2, c3, c4⟩) ?_
      change WkS _ _ _ _ _ _ 7 0 _
      first | (refine WkS.skip (m := 6) (k := 0) rfl (by rfl) ?_) | (refine WkS.pure (m := 6) (k := 0) (v := _) rfl (by rfl) (fun wv => by go_simp; try with_reducible rfl) ?_) | (refine WkS.step (m := 6) (k := 0) (v := _) rfl (by rfl) (by kernel_rfl) (fun wv hS => by obtain ⟨s0, s1, s2, s3, s4, s5, s6, s7⟩ := hS; go_simp; try with_reducible rfl) ?_)
      try simp only [Act.put, List.getElem_toArray, List.getElem_cons_zero, List.setIfInBounds_toArray, List.set_cons_zero, List.set_cons_succ]
      first | (refine WkS.skip (m := 5) (k := 1) rfl (by rfl) ?_) | (refine WkS.pure (m := 5) (k := 1) (v := _) rfl (by rfl) (fun wv => by go_simp; try with_reducible rfl) ?_) | (refine WkS.step (m := 5) (k := 1) (v := _) rfl (by rfl) (by kernel_rfl) (fun wv hS => by obtain ⟨s0, s1, s2, s3, s4, s5, s6, s7⟩ := hS; go_simp; try with_reducible rfl) ?_)
      try simp only [Act.put, List.getElem_toArray, List.getElem_cons_succ, List.getElem_cons_zero, List.setIfInBounds_toArray, List.set_cons_zero, List.set_cons_succ]
      first | (refine WkS.skip (m := 4) (k := 2) rfl (by rfl) ?_) | (refine WkS.pure (m := 4) (k := 2) (v := _) rfl (by rfl) (fun wv => by go_simp; try with_reducible rfl) ?_) | (refine WkS.step (m := 4) (k := 2) (v := _) rfl (by rfl) (by kernel_rfl) (fun wv hS => by obtain ⟨s0, s1, s2, s3, s4, s5, s6, s7⟩ := hS; go_simp; try with_reducible rfl) ?_)
      try simp only [Act.put, List.getElem_toArray, List.getElem_cons_succ, List.getElem_cons_zero, List.setIfInBounds_toArray, List.set_cons_zero, List.set_cons_succ]
      first | (refine WkS.skip (m := 3) (k := 3) rfl (by rfl) ?_) | (refine WkS.pure (m := 3) (k := 3) (v := _) rfl (by rfl) (fun wv => by go_simp; try with_reducible rfl) ?_) | (refine WkS.step (m := 3) (k := 3) (v := _) rfl (by rfl) (by kernel_rfl) (fun wv hS => by obtain ⟨s0, s1, s2, s3, s4, s5, s6, s7⟩ := hS; go_simp; try with_reducible rfl) ?_)
      try simp only [Act.put, List.getElem_toArray, List.getElem_cons_succ, List.getElem_cons_zero, List.setIfInBounds_toArray, List.set_cons_zero, List.set_cons_succ]
      first | (refine WkS.skip (m := 2) (k := 4) rfl (by rfl) ?_) | (refine WkS.pure (m := 2) (k := 4) (v := _) rfl (by rfl) (fun wv => by go_simp; try with_reducible rfl) ?_) | (refine WkS.step (m := 2) (k := 4) (v := _) rfl (by rfl) (by kernel_rfl) (fun wv hS => by obtain ⟨s0, s1, s2, s3, s4, s5, s6, s7⟩ := hS; go_simp; try with_reducible rfl) ?_)
      try simp only [Act.put, List.getElem_toArray, List.getElem_cons_succ, List.getElem_cons_zero, List.setIfInBounds_toArray, List.set_cons_zero, List.set_cons_succ]
      first | (refine WkS.skip (m := 1) (k := 5) rfl (by rfl) ?_) | (refine WkS.pure (m := 1) (k := 5) (v := _) rfl (by rfl) (fun wv => by go_simp; try with_reducible rfl) ?_) | (refine WkS.step (m := 1) (k := 5) (v := _) rfl (by rfl) (by kernel_rfl) (fun wv hS => by obtain ⟨s0, s1, s2, s3, s4, s5, s6, s7⟩ := hS; go_simp; try with_reducible rfl) ?_)
      try simp only [Act.put, List.getElem_toArray, List.getElem_cons_succ, List.getElem_cons_zero, List.setIfInBounds_toArray, List.set_cons_zero, List.set_cons_succ]
      first | (refine WkS.skip (m := 0) (k := 6) rfl (by rfl) ?_) | (refine WkS.pure (m := 0) (k := 6) (v := _) rfl (by rfl) (fun wv => by go_simp; try with_reducible rfl) ?_) | (refine WkS.step (m := 0) (k := 6) (v := _) rfl (by rfl) (by kernel_rfl) (fun wv hS => by obtain ⟨s0, s1, s2, s3, s4, s5, s6, s7⟩ := hS; go_simp; try with_reducible rfl) ?_)
      try simp only [Act.put, List.getElem_toArray, List.getElem_cons_succ, List.getElem_cons_zero, List.setIfInBounds_toArray, List.set_cons_zero, List.set_cons_succ]
      refine WkS.done fun wEI hEI => ?_
      clear q3 k3 c0 c1 c2 c3 c4
      obtain ⟨mEI, q3, k3, c0, c1, c2, c3, c4⟩ := hEI
      have zE0I := mEI.size
      change wpSoft _ _ _ _ 8 1 _ _
      refine wpSoft.value (n := 0) (w1 := (wEI.alloc (Obj.cells #[Value.int .i64 x.nd, Value.int .i64 x.ing, Value.int .i64 x.eg, Value.int .i64 x.exp, Value.int .i64 x.mac] 53))) _ rfl (by rfl) (by go_simp; first | done | exact ⟨rfl, rfl⟩ | with_reducible rfl) ⟨mEI.trans (Mk.alloc wEI (Obj.cells #[Value.int .i64 x.nd, Value.int .i64 x.ing, Value.int .i64 x.eg, Value.int .i64 x.exp, Value.int .i64 x.mac] 53)), (Mk.alloc wEI (Obj.cells #[Value.int .i64 x.nd, Value.int .i64 x.ing, Value.int .i64 x.eg, Value.int .i64 x.exp, Value.int .i64 x.mac] 53)).cellAt q3, (Mk.alloc wEI (Obj.cells #[Value.int .i64 x.nd, Value.int .i64 x.ing, Value.int .i64 x.eg, Value.int .i64 x.exp, Value.int .i64 x.mac] 53)).cellAt k3, (Mk.alloc wEI (Obj.cells #[Value.int .i64 x.nd, Value.int .i64 x.ing, Value.int .i64 x.eg, Value.int .i64 x.exp, Value.int .i64 x.mac] 53)).cellAt c0, (Mk.alloc wEI (Obj.cells #[Value.int .i64 x.nd, Value.int .i64 x.ing, Value.int .i64 x.eg, Value.int .i64 x.exp, Value.int .i64 x.mac] 53)).cellAt c1, (Mk.alloc wEI (Obj.cells #[Value.int .i64 x.nd, Value.int .i64 x.ing, Value.int .i64 x.eg, Value.int .i64 x.exp, Value.int .i64 x.mac] 53)).cellAt c2, (Mk.alloc wEI (Obj.cells #[Value.int .i64 x.nd, Value.int .i64 x.ing, Value.int .i64 x.eg, Value.int .i64 x.exp, Value.int .i64 x.mac] 53)).cellAt c3, (Mk.alloc wEI (Obj.cells #[Value.int .i64 x.nd, Value.int .i64 x.ing, Value.int .i64 x.eg, Value.int .i64 x.exp, Value.int .i64 x.mac] 53)).cellAt c4⟩ ?_
      have hh3 := hasR_new (cell := THop.cell) (nc := 5) (by decide) wEI 53 x #[Value.int .i64 x.nd, Value.int .i64 x.ing, Value.int .i64 x.eg, Value.int .i64 x.exp, Value.int .i64 x.mac] (fun j hj => by match j, hj with | 0, _ => rfl | 1, _ => rfl | 2, _ => rfl | 3, _ => rfl | 4, _ => rfl)
      intro wG0I mG0I hG0I
      clear mEI q3 k3 c0 c1 c2 c3 c4
      obtain ⟨mEI, q3, k3, c0, c1, c2, c3, c4⟩ := hG0I
      replace hh3 := (hh3.mk mG0I (Nat.le_refl _) (.inr (Nat.le_refl _))).mono mG0I.size
      try simp only [Act.put, List.getElem_toArray, List.getElem_cons_succ, List.getElem_cons_zero, List.setIfInBounds_toArray, List.set_cons_zero, List.set_cons_succ]
      refine wpSoft.done ?_
      simp only [List.drop_succ_cons, List.drop_zero]
      have mY := mEI
      have ho3 := own_keptR hown mY
      have hlo := Nat.le_trans hsz mY.size
      replace q0 := mY.cellAt q0
      replace q1 := mY.cellAt q1
      replace q2 := mY.cellAt q2
      have q3' := q3
      have fq' := fun q => (mY.frozen (b := wE.heap.size) (o := q) (by omega) (.inr (Nat.zero_le _))).trans (fq q)
      go_wp2_with (at_builtin; refine wpList_appR (by decide) oneHop1 rfl (.tmp 25) (.tmp 31) 48 rfl (wE.heap.size + 1) 53 i0 _ Tryz.underlying48 hi0 hz0 rfl hz1 (by rw [hz2]; decide) _ ((turnP zs n).take k) k rfl ho3 _ 1 1 [x] rfl (fun h => by cases h) hh3 (by omega) hlo ?_; intro v2 w4 hown2 hgr2; have hne : ∀ q, (Value.slice A k C).ownBlock = some q → q ≠ wE.heap.size := fun q e => (by have := (ho3.lt q e).1; omega); have p3 := grown_cell q3' hgr2 hne; have pf := fun q => grown_frz (fq' q) (World.block_lt_of_cell? _ _ q3') hgr2 hne; obtain ⟨A2, C2, rfl, hca2, hcb2⟩ := ownsRow_sliceR2 hown2)
      have p0 := grown_cell q0 hgr2 hne
      have p1 := grown_cell q1 hgr2 hne
      have p2 := grown_cell q2 hgr2 hne
      have M4 := (hM.trans mY).appR hgr2 (fun g hg => by have := (ho3.lt g hg).1; omega)
      have z4 := hgr2.size
      try simp only [noPan]
      try (go_wp2_with fail)
      go_roundw
      case rel => exact ⟨k + 1, A2, C2, by omega, congrArg (Value.int .i64) (by have := hm.out; omega), ⟨cell_set p0 _ _ (.inr (by simp)), cell_set p1 _ _ (.inr (by simp)), cell_set p2 _ _ (.inr (by simp)), World.cell?_setCell_same _ _ _ p3, fun q => frozen_set (pf q) _ _⟩, by rw [HT.out]; exact own_put hown2 _ _ (Nat.lt_succ_self _), M4.put _ _ zE0, by simp only [World.size_set]; omega⟩
      case measure => first | (simp [intOf]; done) | (simp [intOf]; omega)
    · obtain rfl : k = n := by omega
      rw [show (k : Int) - 1 - (k : Int) = -1 by omega]
      have r0 := hM.cellAt R0.out
      have r1 := hM.cellAt R1.out
      have r2 := hM.cellAt R2.out
      have r3 := hM.cellAt R3.out
      have hbQ := hM.size
      have fr : ∀ q, wr.frozen? ⟨w.heap.size + 1, q, none⟩ = false := fun q => (hM.frozen (b := w.heap.size + 1) (o := q) (by omega) (.inr (Nat.zero_le _))).trans (FRE.out q)
      have hwq : w.heap.size + 1 < wE.heap.size := by rw [hs2] at zE0; omega
      have ht : (turnP zs k).take k = turnP zs k := List.take_of_length_le (by unfold turnP; rw [turnL_len]; exact Nat.le_refl _)
      rw [ht] at hown
      obtain ⟨_, _, e9, hca, hcb⟩ := ownsRow_sliceR2 hown
      cases e9
      have o3 := ownsRow_ownR (by decide) hown
      have MF := hMW
      go_wp2_with fail
      replace r0 := World.cell?_setCell_same _ _ (.int .i64 (rkV x0)) r0
      replace r1 := cell_set r1 ⟨w.heap.size + 1, 0, none⟩ (.int .i64 (rkV x0)) (.inr (by simp))
      replace r2 := cell_set r2 ⟨w.heap.size + 1, 0, none⟩ (.int .i64 (rkV x0)) (.inr (by simp))
      replace r3 := cell_set r3 ⟨w.heap.size + 1, 0, none⟩ (.int .i64 (rkV x0)) (.inr (by simp))
      replace o3 := o3.set ⟨w.heap.size + 1, 0, none⟩ (.int .i64 (rkV x0)) (.inl (show w.heap.size + 1 < _ from by omega))
      replace MF := MF.put ⟨w.heap.size + 1, 0, none⟩ (.int .i64 (rkV x0)) (show w.heap.size ≤ w.heap.size + 1 from by omega)
      replace r0 := cell_set r0 ⟨w.heap.size + 1, 1, none⟩ (.int .i64 x1) (.inr (by simp))
      replace r1 := World.cell?_setCell_same _ _ (.int .i64 x1) r1
      replace r2 := cell_set r2 ⟨w.heap.size + 1, 1, none⟩ (.int .i64 x1) (.inr (by simp))
      replace r3 := cell_set r3 ⟨w.heap.size + 1, 1, none⟩ (.int .i64 x1) (.inr (by simp))
      replace o3 := o3.set ⟨w.heap.size + 1, 1, none⟩ (.int .i64 x1) (.inl (show w.heap.size + 1 < _ from by omega))
      replace MF := MF.put ⟨w.heap.size + 1, 1, none⟩ (.int .i64 x1) (show w.heap.size ≤ w.heap.size + 1 from by omega)
      replace r0 := cell_set r0 ⟨w.heap.size + 1, 2, none⟩ (.int .i64 β) (.inr (by simp))
      replace r1 := cell_set r1 ⟨w.heap.size + 1, 2, none⟩ (.int .i64 β) (.inr (by simp))
      replace r2 := World.cell?_setCell_same _ _ (.int .i64 β) r2
      replace r3 := cell_set r3 ⟨w.heap.size + 1, 2, none⟩ (.int .i64 β) (.inr (by simp))
      replace o3 := o3.set ⟨w.heap.size + 1, 2, none⟩ (.int .i64 β) (.inl (show w.heap.size + 1 < _ from by omega))
      replace MF := MF.put ⟨w.heap.size + 1, 2, none⟩ (.int .i64 β) (show w.heap.size ≤ w.heap.size + 1 from by omega)
      replace r0 := cell_set r0 ⟨w.heap.size + 1, 3, none⟩ (.slice A k C) (.inr (by simp))
      replace r1 := cell_set r1 ⟨w.heap.size + 1, 3, none⟩ (.slice A k C) (.inr (by simp))
      replace r2 := cell_set r2 ⟨w.heap.size + 1, 3, none⟩ (.slice A k C) (.inr (by simp))
      replace r3 := World.cell?_setCell_same _ _ (.slice A k C) r3
      replace o3 := o3.set ⟨w.heap.size + 1, 3, none⟩ (.slice A k C) (.inl (show w.heap.size + 1 < _ from by omega))
      replace MF := MF.put ⟨w.heap.size + 1, 3, none⟩ (.slice A k C) (show w.heap.size ≤ w.heap.size + 1 from by omega)
      have zF : ((((wr.setCell ⟨w.heap.size + 1, 0, none⟩ (.int .i64 (rkV x0))).setCell ⟨w.heap.size + 1, 1, none⟩ (.int .i64 x1)).setCell ⟨w.heap.size + 1, 2, none⟩ (.int .i64 β)).setCell ⟨w.heap.size + 1, 3, none⟩ (.slice A k C)).heap.size = wr.heap.size := by simp [World.setCell]
      generalize ((((wr.setCell ⟨w.heap.size + 1, 0, none⟩ (.int .i64 (rkV x0))).setCell ⟨w.heap.size + 1, 1, none⟩ (.int .i64 x1)).setCell ⟨w.heap.size + 1, 2, none⟩ (.int .i64 β)).setCell ⟨w.heap.size + 1, 3, none⟩ (.slice A k C)) = WF at *
      refine bodyPost_ret (v := .agg #[.int .i64 (rkV x0), .int .i64 x1, .int .i64 β, .slice A k C]) (by simp [results, Tryz.results48, go_sem, r0, r1, r2, r3]) rfl ⟨_, _, _, rfl, ⟨hca, hcb⟩, ?_, MF⟩
      exact o3.wide (by omega) (by omega)

end Go.Proofs.YtifhhfndoifbhaaGreat
