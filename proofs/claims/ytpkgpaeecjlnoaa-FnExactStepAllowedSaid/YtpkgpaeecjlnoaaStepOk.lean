
/- StepAllowed of both sides. -/
import Derived.Test.YtpkgpaeecjlnoaaTransit
import Derived.Test.YtpkgpaeecjlnoaaKindOf
import Derived.Test.YtpkgpaeecjlnoaaSStep
import Derived.Test.YtpkgpaeecjlnoaaCTopology
import Derived.Test.YtpkgpaeecjlnoaaRet
import Derived.Deep.RegionHeld3
import Derived.Deep.QuietTactic
import Derived.BigQuiet
import Derived.Test.YtpkgpaeecjlnoaaWk
namespace Go.Proofs.Ytpkgpaeecjlnoaa
open Go.ChangeShapes Go.WideShapes Go.ChangeAt Go.RowKit
set_option linter.unusedVariables false
def stepOkB (zs : List TLink) (n : Nat) (x : TStep) : Bool := transB (kindOf zs x.nd x.ing n) (kindOf zs x.nd x.eg n) && (!(x.ing == x.eg) || (x.ing == 0))

set_option maxRecDepth 100000 in
set_option maxHeartbeats 4000000 in
theorem specStepOk (a0 a1 : Option Addr) (n0 c0 n1 c1 : Nat) (B : Nat) (zs : List TLink) (x : TStep) (w : World) (h : HasLink w B a1 n1 zs) (hB : B ≤ w.heap.size) (hn : n1 ≤ 1048576) :
    Calls Try.prog 54 #[.agg #[.slice a0 n0 c0, .slice a1 n1 c1], .agg #[.int .i64 x.nd, .int .i64 x.ing, .int .i64 x.eg]] w fun e w' => e = .returned (.bool (stepOkB zs n1 x)) ∧ Mk0 w w' := by
  have M0 : Mk0 w ((w.alloc (Obj.cells #[Value.slice a0 n0 c0, Value.slice a1 n1 c1] 35)).alloc (Obj.cells #[Value.int .i64 x.nd, Value.int .i64 x.ing, Value.int .i64 x.eg] 84)) := (Mk.alloc w _).new _
  have k0_0 : ((w.alloc (Obj.cells #[Value.slice a0 n0 c0, Value.slice a1 n1 c1] 35)).alloc (Obj.cells #[Value.int .i64 x.nd, Value.int .i64 x.ing, Value.int .i64 x.eg] 84)).cell? ⟨w.heap.size, 0, none⟩ = some (.slice a0 n0 c0) := by simp [go_sem]
  have k0_1 : ((w.alloc (Obj.cells #[Value.slice a0 n0 c0, Value.slice a1 n1 c1] 35)).alloc (Obj.cells #[Value.int .i64 x.nd, Value.int .i64 x.ing, Value.int .i64 x.eg] 84)).cell? ⟨w.heap.size, 1, none⟩ = some (.slice a1 n1 c1) := by simp [go_sem]
  have k1_0 : ((w.alloc (Obj.cells #[Value.slice a0 n0 c0, Value.slice a1 n1 c1] 35)).alloc (Obj.cells #[Value.int .i64 x.nd, Value.int .i64 x.ing, Value.int .i64 x.eg] 84)).cell? ⟨w.heap.size + 1, 0, none⟩ = some (.int .i64 x.nd) := by simp [go_sem]
  have k1_1 : ((w.alloc (Obj.cells #[Value.slice a0 n0 c0, Value.slice a1 n1 c1] 35)).alloc (Obj.cells #[Value.int .i64 x.nd, Value.int .i64 x.ing, Value.int .i64 x.eg] 84)).cell? ⟨w.heap.size + 1, 1, none⟩ = some (.int .i64 x.ing) := by simp [go_sem]
  have k1_2 : ((w.alloc (Obj.cells #[Value.slice a0 n0 c0, Value.slice a1 n1 c1] 35)).alloc (Obj.cells #[Value.int .i64 x.nd, Value.int .i64 x.ing, Value.int .i64 x.eg] 84)).cell? ⟨w.heap.size + 1, 2, none⟩ = some (.int .i64 x.eg) := by simp [go_sem]
  cases hs : (x.ing == x.eg)
  · have HR := Lib.hid (show stepOkB zs n1 x = transB (kindOf zs x.nd x.ing n1) (kindOf zs x.nd x.eg n1) by unfold stepOkB; rw [hs]; simp)
    go_enter Try.func54, Try.ntmps54
    go_wp2_with fail
    go_region_held3 (fun w' => Mk0 ((w.alloc (Obj.cells #[Value.slice a0 n0 c0, Value.slice a1 n1 c1] 35)).alloc (Obj.cells #[Value.int .i64 x.nd, Value.int .i64 x.ing, Value.int .i64 x.eg] 84)) w' ∧ w'.cell? ⟨w.heap.size, 0, none⟩ = some (.slice a0 n0 c0) ∧ w'.cell? ⟨w.heap.size, 1, none⟩ = some (.slice a1 n1 c1) ∧ w'.cell? ⟨w.heap.size + 1, 0, none⟩ = some (.int .i64 x.nd) ∧ w'.cell? ⟨w.heap.size + 1, 1, none⟩ = some (.int .i64 x.ing) ∧ w'.cell? ⟨w.heap.size + 1, 2, none⟩ = some (.int .i64 x.eg)) (first | exact ⟨Mk.drew1 _, k0_0, k0_1, k1_0, k1_1, k1_2⟩ | (obtain ⟨s0, s1, s2, s3, s4, s5⟩ := ‹Mk0 ((w.alloc (Obj.cells #[Value.slice a0 n0 c0, Value.slice a1 n1 c1] 35)).alloc (Obj.cells #[Value.int .i64 x.nd, Value.int .i64 x.ing, Value.int .i64 x.eg] 84)) _ ∧ _›; exact ⟨s0.trans mm, mm.cellAt s1, mm.cellAt s2, mm.cellAt s3, mm.cellAt s4, mm.cellAt s5⟩)) (first | (go_at_call 121; with_reducible refine (specKind a0 a1 n0 c0 n1 c1 B zs x.nd x.ing _ (h.mk (M0.trans (‹Mk0 ((w.alloc (Obj.cells #[Value.slice a0 n0 c0, Value.slice a1 n1 c1] 35)).alloc (Obj.cells #[Value.int .i64 x.nd, Value.int .i64 x.ing, Value.int .i64 x.eg] 84)) _ ∧ _›).1) hB (.inr (Nat.le_refl _))) (Nat.le_trans hB (M0.trans (‹Mk0 ((w.alloc (Obj.cells #[Value.slice a0 n0 c0, Value.slice a1 n1 c1] 35)).alloc (Obj.cells #[Value.int .i64 x.nd, Value.int .i64 x.ing, Value.int .i64 x.eg] 84)) _ ∧ _›).1).size) hn).mono ?_; rintro e wq ⟨rfl, mm⟩) | (go_at_call 121; with_reducible refine (specKind a0 a1 n0 c0 n1 c1 B zs x.nd x.eg _ (h.mk (M0.trans (‹Mk0 ((w.alloc (Obj.cells #[Value.slice a0 n0 c0, Value.slice a1 n1 c1] 35)).alloc (Obj.cells #[Value.int .i64 x.nd, Value.int .i64 x.ing, Value.int .i64 x.eg] 84)) _ ∧ _›).1) hB (.inr (Nat.le_refl _))) (Nat.le_trans hB (M0.trans (‹Mk0 ((w.alloc (Obj.cells #[Value.slice a0 n0 c0, Value.slice a1 n1 c1] 35)).alloc (Obj.cells #[Value.int .i64 x.nd, Value.int .i64 x.ing, Value.int .i64 x.eg] 84)) _ ∧ _›).1).size) hn).mono ?_; rintro e wq ⟨rfl, mm⟩) | (go_at_call 120; refine (specTransit _ _ _).mono ?_; rintro e wq ⟨rfl, mm⟩))
    obtain ⟨m1, k0_0, k0_1, k1_0, k1_1, k1_2⟩ := ‹Mk0 ((w.alloc (Obj.cells #[Value.slice a0 n0 c0, Value.slice a1 n1 c1] 35)).alloc (Obj.cells #[Value.int .i64 x.nd, Value.int .i64 x.ing, Value.int .i64 x.eg] 84)) _ ∧ _›
    refine ‹∀ (a : Act) (w : World), _ → _› _ _ ?_
    go_wp2_with fail
    go_ret
    exact ⟨retB HR.out.symm, M0.trans m1⟩
  · cases hz : (x.ing == 0)
    · have HR := Lib.hid (show stepOkB zs n1 x = false by unfold stepOkB; rw [hs, hz]; simp)
      go_enter Try.func54, Try.ntmps54
      go_wp2_with fail
      go_ret
      exact ⟨retB HR.out.symm, M0⟩
    · have HR := Lib.hid (show stepOkB zs n1 x = transB (kindOf zs x.nd x.ing n1) (kindOf zs x.nd x.eg n1) by unfold stepOkB; rw [hs, hz]; simp)
      go_enter Try.func54, Try.ntmps54
      go_wp2_with fail
      go_region_held3 (fun w' => Mk0 ((w.alloc (Obj.cells #[Value.slice a0 n0 c0, Value.slice a1 n1 c1] 35)).alloc (Obj.cells #[Value.int .i64 x.nd, Value.int .i64 x.ing, Value.int .i64 x.eg] 84)) w' ∧ w'.cell? ⟨w.heap.size, 0, none⟩ = some (.slice a0 n0 c0) ∧ w'.cell? ⟨w.heap.size, 1, none⟩ = some (.slice a1 n1 c1) ∧ w'.cell? ⟨w.heap.size + 1, 0, none⟩ = some (.int .i64 x.nd) ∧ w'.cell? ⟨w.heap.size + 1, 1, none⟩ = some (.int .i64 x.ing) ∧ w'.cell? ⟨w.heap.size + 1, 2, none⟩ = some (.int .i64 x.eg)) (first | exact ⟨Mk.drew1 _, k0_0, k0_1, k1_0, k1_1, k1_2⟩ | (obtain ⟨s0, s1, s2, s3, s4, s5⟩ := ‹Mk0 ((w.alloc (Obj.cells #[Value.slice a0 n0 c0, Value.slice a1 n1 c1] 35)).alloc (Obj.cells #[Value.int .i64 x.nd, Value.int .i64 x.ing, Value.int .i64 x.eg] 84)) _ ∧ _›; exact ⟨s0.trans mm, mm.cellAt s1, mm.cellAt s2, mm.cellAt s3, mm.cellAt s4, mm.cellAt s5⟩)) (first | (go_at_call 121; with_reducible refine (specKind a0 a1 n0 c0 n1 c1 B zs x.nd x.ing _ (h.mk (M0.trans (‹Mk0 ((w.alloc (Obj.cells #[Value.slice a0 n0 c0, Value.slice a1 n1 c1] 35)).alloc (Obj.cells #[Value.int .i64 x.nd, Value.int .i64 x.ing, Value.int .i64 x.eg] 84)) _ ∧ _›).1) hB (.inr (Nat.le_refl _))) (Nat.le_trans hB (M0.trans (‹Mk0 ((w.alloc (Obj.cells #[Value.slice a0 n0 c0, Value.slice a1 n1 c1] 35)).alloc (Obj.cells #[Value.int .i64 x.nd, Value.int .i64 x.ing, Value.int .i64 x.eg] 84)) _ ∧ _›).1).size) hn).mono ?_; rintro e wq ⟨rfl, mm⟩) | (go_at_call 121; with_reducible refine (specKind a0 a1 n0 c0 n1 c1 B zs x.nd x.eg _ (h.mk (M0.trans (‹Mk0 ((w.alloc (Obj.cells #[Value.slice a0 n0 c0, Value.slice a1 n1 c1] 35)).alloc (Obj.cells #[Value.int .i64 x.nd, Value.int .i64 x.ing, Value.int .i64 x.eg] 84)) _ ∧ _›).1) hB (.inr (Nat.le_refl _))) (Nat.le_trans hB (M0.trans (‹Mk0 ((w.alloc (Obj.cells #[Value.slice a0 n0 c0, Value.slice a1 n1 c1] 35)).alloc (Obj.cells #[Value.int .i64 x.nd, Value.int .i64 x.ing, Value.int .i64 x.eg] 84)) _ ∧ _›).1).size) hn).mono ?_; rintro e wq ⟨rfl, mm⟩) | (go_at_call 120; refine (specTransit _ _ _).mono ?_; rintro e wq ⟨rfl, mm⟩))
      obtain ⟨m1, k0_0, k0_1, k1_0, k1_1, k1_2⟩ := ‹Mk0 ((w.alloc (Obj.cells #[Value.slice a0 n0 c0, Value.slice a1 n1 c1] 35)).alloc (Obj.cells #[Value.int .i64 x.nd, Value.int .i64 x.ing, Value.int .i64 x.eg] 84)) _ ∧ _›
      refine ‹∀ (a : Act) (w : World), _ → _› _ _ ?_
      go_wp2_with fail
      go_ret
      exact ⟨retB HR.out.symm, M0.trans m1⟩

set_option maxRecDepth 100000 in
set_option maxHeartbeats 4000000 in
theorem implStepOk (a0 a1 : Option Addr) (n0 c0 n1 c1 : Nat) (B : Nat) (zs : List TLink) (x : TStep) (w : World) (h : HasLink w B a1 n1 zs) (hB : B ≤ w.heap.size) (hn : n1 ≤ 1048576) :
    Calls Try.prog 56 #[.agg #[.slice a0 n0 c0, .slice a1 n1 c1], .agg #[.int .i64 x.nd, .int .i64 x.ing, .int .i64 x.eg]] w fun e w' => e = .returned (.bool (stepOkB zs n1 x)) ∧ Mk0 w w' := by
  have M0 : Mk0 w ((w.alloc (Obj.cells #[Value.slice a0 n0 c0, Value.slice a1 n1 c1] 35)).alloc (Obj.cells #[Value.int .i64 x.nd, Value.int .i64 x.ing, Value.int .i64 x.eg] 84)) := (Mk.alloc w _).new _
  have k0 : ((w.alloc (Obj.cells #[Value.slice a0 n0 c0, Value.slice a1 n1 c1] 35)).alloc (Obj.cells #[Value.int .i64 x.nd, Value.int .i64 x.ing, Value.int .i64 x.eg] 84)).cell? ⟨w.heap.size, 0, none⟩ = some (.slice a0 n0 c0) := by simp [go_sem]
  have k1 : ((w.alloc (Obj.cells #[Value.slice a0 n0 c0, Value.slice a1 n1 c1] 35)).alloc (Obj.cells #[Value.int .i64 x.nd, Value.int .i64 x.ing, Value.int .i64 x.eg] 84)).cell? ⟨w.heap.size, 1, none⟩ = some (.slice a1 n1 c1) := by simp [go_sem]
  have j0 : ((w.alloc (Obj.cells #[Value.slice a0 n0 c0, Value.slice a1 n1 c1] 35)).alloc (Obj.cells #[Value.int .i64 x.nd, Value.int .i64 x.ing, Value.int .i64 x.eg] 84)).cell? ⟨w.heap.size + 1, 0, none⟩ = some (.int .i64 x.nd) := by simp [go_sem]
  have j1 : ((w.alloc (Obj.cells #[Value.slice a0 n0 c0, Value.slice a1 n1 c1] 35)).alloc (Obj.cells #[Value.int .i64 x.nd, Value.int .i64 x.ing, Value.int .i64 x.eg] 84)).cell? ⟨w.heap.size + 1, 1, none⟩ = some (.int .i64 x.ing) := by simp [go_sem]
  have j2 : ((w.alloc (Obj.cells #[Value.slice a0 n0 c0, Value.slice a1 n1 c1] 35)).alloc (Obj.cells #[Value.int .i64 x.nd, Value.int .i64 x.ing, Value.int .i64 x.eg] 84)).cell? ⟨w.heap.size + 1, 2, none⟩ = some (.int .i64 x.eg) := by simp [go_sem]
  cases ht : transB (kindOf zs x.nd x.ing n1) (kindOf zs x.nd x.eg n1)
  · have HR := Lib.hid (show stepOkB zs n1 x = false by unfold stepOkB; rw [ht]; rfl)
    have HT := Lib.hid ht
    clear ht
    go_enter Try.func56, Try.ntmps56
    go_wp2_with fail
    refine wp_region_wk (fun w' => Mk0 ((w.alloc (Obj.cells #[Value.slice a0 n0 c0, Value.slice a1 n1 c1] 35)).alloc (Obj.cells #[Value.int .i64 x.nd, Value.int .i64 x.ing, Value.int .i64 x.eg] 84)) w' ∧ w'.cell? ⟨w.heap.size, 0, none⟩ = some (.slice a0 n0 c0) ∧ w'.cell? ⟨w.heap.size, 1, none⟩ = some (.slice a1 n1 c1) ∧ w'.cell? ⟨w.heap.size + 1, 0, none⟩ = some (.int .i64 x.nd) ∧ w'.cell? ⟨w.heap.size + 1, 1, none⟩ = some (.int .i64 x.ing) ∧ w'.cell? ⟨w.heap.size + 1, 2, none⟩ = some (.int .i64 x.eg)) (by kernel_rfl) (by kernel_rfl) (⟨Mk.drew1 _, k0, k1, j0, j1, j2⟩) ?_
    change Wk _ _ _ _ 26 0 _
    first | (refine Wk.skip (m := 25) (k := 0) rfl (by rfl) ?_) | (refine Wk.step (m := 25) (k := 0) (v := _) rfl (by rfl) (fun wv hS => by obtain ⟨s0, s1, s2, s3, s4, s5⟩ := hS; go_simp; try with_reducible rfl) ?_)
    try simp only [Act.put, List.getElem_toArray, List.getElem_cons_zero, List.setIfInBounds_toArray, List.set_cons_zero, List.set_cons_succ]
    first | (refine Wk.skip (m := 24) (k := 1) rfl (by rfl) ?_) | (refine Wk.step (m := 24) (k := 1) (v := _) rfl (by rfl) (fun wv hS => by obtain ⟨s0, s1, s2, s3, s4, s5⟩ := hS; go_simp; try with_reducible rfl) ?_)
    try simp only [Act.put, List.getElem_toArray, List.getElem_cons_succ, List.getElem_cons_zero, List.setIfInBounds_toArray, List.set_cons_zero, List.set_cons_succ]
    first | (refine Wk.skip (m := 23) (k := 2) rfl (by rfl) ?_) | (refine Wk.step (m := 23) (k := 2) (v := _) rfl (by rfl) (fun wv hS => by obtain ⟨s0, s1, s2, s3, s4, s5⟩ := hS; go_simp; try with_reducible rfl) ?_)
    try simp only [Act.put, List.getElem_toArray, List.getElem_cons_succ, List.getElem_cons_zero, List.setIfInBounds_toArray, List.set_cons_zero, List.set_cons_succ]
    first | (refine Wk.skip (m := 22) (k := 3) rfl (by rfl) ?_) | (refine Wk.step (m := 22) (k := 3) (v := _) rfl (by rfl) (fun wv hS => by obtain ⟨s0, s1, s2, s3, s4, s5⟩ := hS; go_simp; try with_reducible rfl) ?_)
    try simp only [Act.put, List.getElem_toArray, List.getElem_cons_succ, List.getElem_cons_zero, List.setIfInBounds_toArray, List.set_cons_zero, List.set_cons_succ]
    first | (refine Wk.skip (m := 21) (k := 4) rfl (by rfl) ?_) | (refine Wk.step (m := 21) (k := 4) (v := _) rfl (by rfl) (fun wv hS => by obtain ⟨s0, s1, s2, s3, s4, s5⟩ := hS; go_simp; try with_reducible rfl) ?_)
    try simp only [Act.put, List.getElem_toArray, List.getElem_cons_succ, List.getElem_cons_zero, List.setIfInBounds_toArray, List.set_cons_zero, List.set_cons_succ]
    refine Wk.call (m := 20) (k := 5) (v := .int .i64 (kindOf zs x.nd x.ing n1)) _ _ rfl (by rfl) (fun wv hS => by obtain ⟨s0, s1, s2, s3, s4, s5⟩ := hS; go_simp; first | done | exact ⟨rfl, rfl⟩ | with_reducible rfl) (fun wv hS => ?_) ?_; · obtain ⟨s0, s1, s2, s3, s4, s5⟩ := hS; refine (implKind a0 a1 n0 c0 n1 c1 B zs x.nd x.ing wv (h.mk (M0.trans s0) hB (.inr (Nat.le_refl _))) (Nat.le_trans hB (M0.trans s0).size) hn).mono ?_; rintro e w' ⟨rfl, mm⟩; exact ⟨rfl, s0.trans mm, mm.cellAt s1, mm.cellAt s2, mm.cellAt s3, mm.cellAt s4, mm.cellAt s5⟩
    try simp only [Act.put, List.getElem_toArray, List.getElem_cons_succ, List.getElem_cons_zero, List.setIfInBounds_toArray, List.set_cons_zero, List.set_cons_succ]
    first | (refine Wk.skip (m := 19) (k := 6) rfl (by rfl) ?_) | (refine Wk.step (m := 19) (k := 6) (v := _) rfl (by rfl) (fun wv hS => by obtain ⟨s0, s1, s2, s3, s4, s5⟩ := hS; go_simp; try with_reducible rfl) ?_)
    try simp only [Act.put, List.getElem_toArray, List.getElem_cons_succ, List.getElem_cons_zero, List.setIfInBounds_toArray, List.set_cons_zero, List.set_cons_succ]
    first | (refine Wk.skip (m := 18) (k := 7) rfl (by rfl) ?_) | (refine Wk.step (m := 18) (k := 7) (v := _) rfl (by rfl) (fun wv hS => by obtain ⟨s0, s1, s2, s3, s4, s5⟩ := hS; go_simp; try with_reducible rfl) ?_)
    try simp only [Act.put, List.getElem_toArray, List.getElem_cons_succ, List.getElem_cons_zero, List.setIfInBounds_toArray, List.set_cons_zero, List.set_cons_succ]
    first | (refine Wk.skip (m := 17) (k := 8) rfl (by rfl) ?_) | (refine Wk.step (m := 17) (k := 8) (v := _) rfl (by rfl) (fun wv hS => by obtain ⟨s0, s1, s2, s3, s4, s5⟩ := hS; go_simp; try with_reducible rfl) ?_)
    try simp only [Act.put, List.getElem_toArray, List.getElem_cons_succ, List.getElem_cons_zero, List.setIfInBounds_toArray, List.set_cons_zero, List.set_cons_succ]
    first | (refine Wk.skip (m := 16) (k := 9) rfl (by rfl) ?_) | (refine Wk.step (m := 16) (k := 9) (v := _) rfl (by rfl) (fun wv hS => by obtain ⟨s0, s1, s2, s3, s4, s5⟩ := hS; go_simp; try with_reducible rfl) ?_)
    try simp only [Act.put, List.getElem_toArray, List.getElem_cons_succ, List.getElem_cons_zero, List.setIfInBounds_toArray, List.set_cons_zero, List.set_cons_succ]
    first | (refine Wk.skip (m := 15) (k := 10) rfl (by rfl) ?_) | (refine Wk.step (m := 15) (k := 10) (v := _) rfl (by rfl) (fun wv hS => by obtain ⟨s0, s1, s2, s3, s4, s5⟩ := hS; go_simp; try with_reducible rfl) ?_)
    try simp only [Act.put, List.getElem_toArray, List.getElem_cons_succ, List.getElem_cons_zero, List.setIfInBounds_toArray, List.set_cons_zero, List.set_cons_succ]
    refine Wk.call (m := 14) (k := 11) (v := .int .i64 (kindOf zs x.nd x.eg n1)) _ _ rfl (by rfl) (fun wv hS => by obtain ⟨s0, s1, s2, s3, s4, s5⟩ := hS; go_simp; first | done | exact ⟨rfl, rfl⟩ | with_reducible rfl) (fun wv hS => ?_) ?_; · obtain ⟨s0, s1, s2, s3, s4, s5⟩ := hS; refine (implKind a0 a1 n0 c0 n1 c1 B zs x.nd x.eg wv (h.mk (M0.trans s0) hB (.inr (Nat.le_refl _))) (Nat.le_trans hB (M0.trans s0).size) hn).mono ?_; rintro e w' ⟨rfl, mm⟩; exact ⟨rfl, s0.trans mm, mm.cellAt s1, mm.cellAt s2, mm.cellAt s3, mm.cellAt s4, mm.cellAt s5⟩
    try simp only [Act.put, List.getElem_toArray, List.getElem_cons_succ, List.getElem_cons_zero, List.setIfInBounds_toArray, List.set_cons_zero, List.set_cons_succ]
    refine Wk.call (m := 13) (k := 12) (v := .bool false) _ _ rfl (by rfl) (fun wv hS => by obtain ⟨s0, s1, s2, s3, s4, s5⟩ := hS; go_simp; first | done | exact ⟨rfl, rfl⟩ | with_reducible rfl) (fun wv hS => ?_) ?_; · obtain ⟨s0, s1, s2, s3, s4, s5⟩ := hS; refine (implTransit _ _ wv).mono ?_; rintro e w' ⟨rfl, mm⟩; exact ⟨by rw [HT.out], s0.trans mm, mm.cellAt s1, mm.cellAt s2, mm.cellAt s3, mm.cellAt s4, mm.cellAt s5⟩
    try simp only [Act.put, List.getElem_toArray, List.getElem_cons_succ, List.getElem_cons_zero, List.setIfInBounds_toArray, List.set_cons_zero, List.set_cons_succ]
    first | (refine Wk.skip (m := 12) (k := 13) rfl (by rfl) ?_) | (refine Wk.step (m := 12) (k := 13) (v := _) rfl (by rfl) (fun wv hS => by obtain ⟨s0, s1, s2, s3, s4, s5⟩ := hS; go_simp; try with_reducible rfl) ?_)
    try simp only [Act.put, List.getElem_toArray, List.getElem_cons_succ, List.getElem_cons_zero, List.setIfInBounds_toArray, List.set_cons_zero, List.set_cons_succ]
    first | (refine Wk.skip (m := 11) (k := 14) rfl (by rfl) ?_) | (refine Wk.step (m := 11) (k := 14) (v := _) rfl (by rfl) (fun wv hS => by obtain ⟨s0, s1, s2, s3, s4, s5⟩ := hS; go_simp; try with_reducible rfl) ?_)
    try simp only [Act.put, List.getElem_toArray, List.getElem_cons_succ, List.getElem_cons_zero, List.setIfInBounds_toArray, List.set_cons_zero, List.set_cons_succ]
    first | (refine Wk.skip (m := 10) (k := 15) rfl (by rfl) ?_) | (refine Wk.step (m := 10) (k := 15) (v := _) rfl (by rfl) (fun wv hS => by obtain ⟨s0, s1, s2, s3, s4, s5⟩ := hS; go_simp; try with_reducible rfl) ?_)
    try simp only [Act.put, List.getElem_toArray, List.getElem_cons_succ, List.getElem_cons_zero, List.setIfInBounds_toArray, List.set_cons_zero, List.set_cons_succ]
    first | (refine Wk.skip (m := 9) (k := 16) rfl (by rfl) ?_) | (refine Wk.step (m := 9) (k := 16) (v := _) rfl (by rfl) (fun wv hS => by obtain ⟨s0, s1, s2, s3, s4, s5⟩ := hS; go_simp; try with_reducible rfl) ?_)
    try simp only [Act.put, List.getElem_toArray, List.getElem_cons_succ, List.getElem_cons_zero, List.setIfInBounds_toArray, List.set_cons_zero, List.set_cons_succ]
    first | (refine Wk.skip (m := 8) (k := 17) rfl (by rfl) ?_) | (refine Wk.step (m := 8) (k := 17) (v := _) rfl (by rfl) (fun wv hS => by obtain ⟨s0, s1, s2, s3, s4, s5⟩ := hS; go_simp; try with_reducible rfl) ?_)
    try simp only [Act.put, List.getElem_toArray, List.getElem_cons_succ, List.getElem_cons_zero, List.setIfInBounds_toArray, List.set_cons_zero, List.set_cons_succ]
    first | (refine Wk.skip (m := 7) (k := 18) rfl (by rfl) ?_) | (refine Wk.step (m := 7) (k := 18) (v := _) rfl (by rfl) (fun wv hS => by obtain ⟨s0, s1, s2, s3, s4, s5⟩ := hS; go_simp; try with_reducible rfl) ?_)
    try simp only [Act.put, List.getElem_toArray, List.getElem_cons_succ, List.getElem_cons_zero, List.setIfInBounds_toArray, List.set_cons_zero, List.set_cons_succ]
    first | (refine Wk.skip (m := 6) (k := 19) rfl (by rfl) ?_) | (refine Wk.step (m := 6) (k := 19) (v := _) rfl (by rfl) (fun wv hS => by obtain ⟨s0, s1, s2, s3, s4, s5⟩ := hS; go_simp; try with_reducible rfl) ?_)
    try simp only [Act.put, List.getElem_toArray, List.getElem_cons_succ, List.getElem_cons_zero, List.setIfInBounds_toArray, List.set_cons_zero, List.set_cons_succ]
    first | (refine Wk.skip (m := 5) (k := 20) rfl (by rfl) ?_) | (refine Wk.step (m := 5) (k := 20) (v := _) rfl (by rfl) (fun wv hS => by obtain ⟨s0, s1, s2, s3, s4, s5⟩ := hS; go_simp; try with_reducible rfl) ?_)
    try simp only [Act.put, List.getElem_toArray, List.getElem_cons_succ, List.getElem_cons_zero, List.setIfInBounds_toArray, List.set_cons_zero, List.set_cons_succ]
    first | (refine Wk.skip (m := 4) (k := 21) rfl (by rfl) ?_) | (refine Wk.step (m := 4) (k := 21) (v := _) rfl (by rfl) (fun wv hS => by obtain ⟨s0, s1, s2, s3, s4, s5⟩ := hS; go_simp; try with_reducible rfl) ?_)
    try simp only [Act.put, List.getElem_toArray, List.getElem_cons_succ, List.getElem_cons_zero, List.setIfInBounds_toArray, List.set_cons_zero, List.set_cons_succ]
    first | (refine Wk.skip (m := 3) (k := 22) rfl (by rfl) ?_) | (refine Wk.step (m := 3) (k := 22) (v := _) rfl (by rfl) (fun wv hS => by obtain ⟨s0, s1, s2, s3, s4, s5⟩ := hS; go_simp; try with_reducible rfl) ?_)
    try simp only [Act.put, List.getElem_toArray, List.getElem_cons_succ, List.getElem_cons_zero, List.setIfInBounds_toArray, List.set_cons_zero, List.set_cons_succ]
    first | (refine Wk.skip (m := 2) (k := 23) rfl (by rfl) ?_) | (refine Wk.step (m := 2) (k := 23) (v := _) rfl (by rfl) (fun wv hS => by obtain ⟨s0, s1, s2, s3, s4, s5⟩ := hS; go_simp; try with_reducible rfl) ?_)
    try simp only [Act.put, List.getElem_toArray, List.getElem_cons_succ, List.getElem_cons_zero, List.setIfInBounds_toArray, List.set_cons_zero, List.set_cons_succ]
    first | (refine Wk.skip (m := 1) (k := 24) rfl (by rfl) ?_) | (refine Wk.step (m := 1) (k := 24) (v := _) rfl (by rfl) (fun wv hS => by obtain ⟨s0, s1, s2, s3, s4, s5⟩ := hS; go_simp; try with_reducible rfl) ?_)
    try simp only [Act.put, List.getElem_toArray, List.getElem_cons_succ, List.getElem_cons_zero, List.setIfInBounds_toArray, List.set_cons_zero, List.set_cons_succ]
    first | (refine Wk.skip (m := 0) (k := 25) rfl (by rfl) ?_) | (refine Wk.step (m := 0) (k := 25) (v := _) rfl (by rfl) (fun wv hS => by obtain ⟨s0, s1, s2, s3, s4, s5⟩ := hS; go_simp; try with_reducible rfl) ?_)
    try simp only [Act.put, List.getElem_toArray, List.getElem_cons_succ, List.getElem_cons_zero, List.setIfInBounds_toArray, List.set_cons_zero, List.set_cons_succ]
    refine Wk.done fun wE hE => ?_
    obtain ⟨mE, k0, k1, j0, j1, j2⟩ := hE
    go_wp2_with fail
    go_ret
    exact ⟨retB HR.out.symm, M0.trans mE⟩
  · cases hs : (x.ing == x.eg)
    · have hs' : (x.ing != x.eg) = true := by simp only [bne, hs]; rfl
      have HR := Lib.hid (show stepOkB zs n1 x = true by unfold stepOkB; rw [ht, hs]; rfl)
      have HT := Lib.hid ht
      clear ht
      go_enter Try.func56, Try.ntmps56
      go_wp2_with fail
      refine wp_region_wk (fun w' => Mk0 ((w.alloc (Obj.cells #[Value.slice a0 n0 c0, Value.slice a1 n1 c1] 35)).alloc (Obj.cells #[Value.int .i64 x.nd, Value.int .i64 x.ing, Value.int .i64 x.eg] 84)) w' ∧ w'.cell? ⟨w.heap.size, 0, none⟩ = some (.slice a0 n0 c0) ∧ w'.cell? ⟨w.heap.size, 1, none⟩ = some (.slice a1 n1 c1) ∧ w'.cell? ⟨w.heap.size + 1, 0, none⟩ = some (.int .i64 x.nd) ∧ w'.cell? ⟨w.heap.size + 1, 1, none⟩ = some (.int .i64 x.ing) ∧ w'.cell? ⟨w.heap.size + 1, 2, none⟩ = some (.int .i64 x.eg)) (by kernel_rfl) (by kernel_rfl) (⟨Mk.drew1 _, k0, k1, j0, j1, j2⟩) ?_
      change Wk _ _ _ _ 26 0 _
      first | (refine Wk.skip (m := 25) (k := 0) rfl (by rfl) ?_) | (refine Wk.step (m := 25) (k := 0) (v := _) rfl (by rfl) (fun wv hS => by obtain ⟨s0, s1, s2, s3, s4, s5⟩ := hS; go_simp; try with_reducible rfl) ?_)
      try simp only [Act.put, List.getElem_toArray, List.getElem_cons_zero, List.setIfInBounds_toArray, List.set_cons_zero, List.set_cons_succ]
      first | (refine Wk.skip (m := 24) (k := 1) rfl (by rfl) ?_) | (refine Wk.step (m := 24) (k := 1) (v := _) rfl (by rfl) (fun wv hS => by obtain ⟨s0, s1, s2, s3, s4, s5⟩ := hS; go_simp; try with_reducible rfl) ?_)
      try simp only [Act.put, List.getElem_toArray, List.getElem_cons_succ, List.getElem_cons_zero, List.setIfInBounds_toArray, List.set_cons_zero, List.set_cons_succ]
      first | (refine Wk.skip (m := 23) (k := 2) rfl (by rfl) ?_) | (refine Wk.step (m := 23) (k := 2) (v := _) rfl (by rfl) (fun wv hS => by obtain ⟨s0, s1, s2, s3, s4, s5⟩ := hS; go_simp; try with_reducible rfl) ?_)
      try simp only [Act.put, List.getElem_toArray, List.getElem_cons_succ, List.getElem_cons_zero, List.setIfInBounds_toArray, List.set_cons_zero, List.set_cons_succ]
      first | (refine Wk.skip (m := 22) (k := 3) rfl (by rfl) ?_) | (refine Wk.step (m := 22) (k := 3) (v := _) rfl (by rfl) (fun wv hS => by obtain ⟨s0, s1, s2, s3, s4, s5⟩ := hS; go_simp; try with_reducible rfl) ?_)
      try simp only [Act.put, List.getElem_toArray, List.getElem_cons_succ, List.getElem_cons_zero, List.setIfInBounds_toArray, List.set_cons_zero, List.set_cons_succ]
      first | (refine Wk.skip (m := 21) (k := 4) rfl (by rfl) ?_) | (refine Wk.step (m := 21) (k := 4) (v := _) rfl (by rfl) (fun wv hS => by obtain ⟨s0, s1, s2, s3, s4, s5⟩ := hS; go_simp; try with_reducible rfl) ?_)
      try simp only [Act.put, List.getElem_toArray, List.getElem_cons_succ, List.getElem_cons_zero, List.setIfInBounds_toArray, List.set_cons_zero, List.set_cons_succ]
      refine Wk.call (m := 20) (k := 5) (v := .int .i64 (kindOf zs x.nd x.ing n1)) _ _ rfl (by rfl) (fun wv hS => by obtain ⟨s0, s1, s2, s3, s4, s5⟩ := hS; go_simp; first | done | exact ⟨rfl, rfl⟩ | with_reducible rfl) (fun wv hS => ?_) ?_; · obtain ⟨s0, s1, s2, s3, s4, s5⟩ := hS; refine (implKind a0 a1 n0 c0 n1 c1 B zs x.nd x.ing wv (h.mk (M0.trans s0) hB (.inr (Nat.le_refl _))) (Nat.le_trans hB (M0.trans s0).size) hn).mono ?_; rintro e w' ⟨rfl, mm⟩; exact ⟨rfl, s0.trans mm, mm.cellAt s1, mm.cellAt s2, mm.cellAt s3, mm.cellAt s4, mm.cellAt s5⟩
      try simp only [Act.put, List.getElem_toArray, List.getElem_cons_succ, List.getElem_cons_zero, List.setIfInBounds_toArray, List.set_cons_zero, List.set_cons_succ]
      first | (refine Wk.skip (m := 19) (k := 6) rfl (by rfl) ?_) | (refine Wk.step (m := 19) (k := 6) (v := _) rfl (by rfl) (fun wv hS => by obtain ⟨s0, s1, s2, s3, s4, s5⟩ := hS; go_simp; try with_reducible rfl) ?_)
      try simp only [Act.put, List.getElem_toArray, List.getElem_cons_succ, List.getElem_cons_zero, List.setIfInBounds_toArray, List.set_cons_zero, List.set_cons_succ]
      first | (refine Wk.skip (m := 18) (k := 7) rfl (by rfl) ?_) | (refine Wk.step (m := 18) (k := 7) (v := _) rfl (by rfl) (fun wv hS => by obtain ⟨s0, s1, s2, s3, s4, s5⟩ := hS; go_simp; try with_reducible rfl) ?_)
      try simp only [Act.put, List.getElem_toArray, List.getElem_cons_succ, List.getElem_cons_zero, List.setIfInBounds_toArray, List.set_cons_zero, List.set_cons_succ]
      first | (refine Wk.skip (m := 17) (k := 8) rfl (by rfl) ?_) | (refine Wk.step (m := 17) (k := 8) (v := _) rfl (by rfl) (fun wv hS => by obtain ⟨s0, s1, s2, s3, s4, s5⟩ := hS; go_simp; try with_reducible rfl) ?_)
      try simp only [Act.put, List.getElem_toArray, List.getElem_cons_succ, List.getElem_cons_zero, List.setIfInBounds_toArray, List.set_cons_zero, List.set_cons_succ]
      first | (refine Wk.skip (m := 16) (k := 9) rfl (by rfl) ?_) | (refine Wk.step (m := 16) (k := 9) (v := _) rfl (by rfl) (fun wv hS => by obtain ⟨s0, s1, s2, s3, s4, s5⟩ := hS; go_simp; try with_reducible rfl) ?_)
      try simp only [Act.put, List.getElem_toArray, List.getElem_cons_succ, List.getElem_cons_zero, List.setIfInBounds_toArray, List.set_cons_zero, List.set_cons_succ]
      first | (refine Wk.skip (m := 15) (k := 10) rfl (by rfl) ?_) | (refine Wk.step (m := 15) (k := 10) (v := _) rfl (by rfl) (fun wv hS => by obtain ⟨s0, s1, s2, s3, s4, s5⟩ := hS; go_simp; try with_reducible rfl) ?_)
      try simp only [Act.put, List.getElem_toArray, List.getElem_cons_succ, List.getElem_cons_zero, List.setIfInBounds_toArray, List.set_cons_zero, List.set_cons_succ]
      refine Wk.call (m := 14) (k := 11) (v := .int .i64 (kindOf zs x.nd x.eg n1)) _ _ rfl (by rfl) (fun wv hS => by obtain ⟨s0, s1, s2, s3, s4, s5⟩ := hS; go_simp; first | done | exact ⟨rfl, rfl⟩ | with_reducible rfl) (fun wv hS => ?_) ?_; · obtain ⟨s0, s1, s2, s3, s4, s5⟩ := hS; refine (implKind a0 a1 n0 c0 n1 c1 B zs x.nd x.eg wv (h.mk (M0.trans s0) hB (.inr (Nat.le_refl _))) (Nat.le_trans hB (M0.trans s0).size) hn).mono ?_; rintro e w' ⟨rfl, mm⟩; exact ⟨rfl, s0.trans mm, mm.cellAt s1, mm.cellAt s2, mm.cellAt s3, mm.cellAt s4, mm.cellAt s5⟩
      try simp only [Act.put, List.getElem_toArray, List.getElem_cons_succ, List.getElem_cons_zero, List.setIfInBounds_toArray, List.set_cons_zero, List.set_cons_succ]
      refine Wk.call (m := 13) (k := 12) (v := .bool true) _ _ rfl (by rfl) (fun wv hS => by obtain ⟨s0, s1, s2, s3, s4, s5⟩ := hS; go_simp; first | done | exact ⟨rfl, rfl⟩ | with_reducible rfl) (fun wv hS => ?_) ?_; · obtain ⟨s0, s1, s2, s3, s4, s5⟩ := hS; refine (implTransit _ _ wv).mono ?_; rintro e w' ⟨rfl, mm⟩; exact ⟨by rw [HT.out], s0.trans mm, mm.cellAt s1, mm.cellAt s2, mm.cellAt s3, mm.cellAt s4, mm.cellAt s5⟩
      try simp only [Act.put, List.getElem_toArray, List.getElem_cons_succ, List.getElem_cons_zero, List.setIfInBounds_toArray, List.set_cons_zero, List.set_cons_succ]
      first | (refine Wk.skip (m := 12) (k := 13) rfl (by rfl) ?_) | (refine Wk.step (m := 12) (k := 13) (v := _) rfl (by rfl) (fun wv hS => by obtain ⟨s0, s1, s2, s3, s4, s5⟩ := hS; go_simp; try with_reducible rfl) ?_)
      try simp only [Act.put, List.getElem_toArray, List.getElem_cons_succ, List.getElem_cons_zero, List.setIfInBounds_toArray, List.set_cons_zero, List.set_cons_succ]
      first | (refine Wk.skip (m := 11) (k := 14) rfl (by rfl) ?_) | (refine Wk.step (m := 11) (k := 14) (v := _) rfl (by rfl) (fun wv hS => by obtain ⟨s0, s1, s2, s3, s4, s5⟩ := hS; go_simp; try with_reducible rfl) ?_)
      try simp only [Act.put, List.getElem_toArray, List.getElem_cons_succ, List.getElem_cons_zero, List.setIfInBounds_toArray, List.set_cons_zero, List.set_cons_succ]
      first | (refine Wk.skip (m := 10) (k := 15) rfl (by rfl) ?_) | (refine Wk.step (m := 10) (k := 15) (v := _) rfl (by rfl) (fun wv hS => by obtain ⟨s0, s1, s2, s3, s4, s5⟩ := hS; go_simp; try with_reducible rfl) ?_)
      try simp only [Act.put, List.getElem_toArray, List.getElem_cons_succ, List.getElem_cons_zero, List.setIfInBounds_toArray, List.set_cons_zero, List.set_cons_succ]
      first | (refine Wk.skip (m := 9) (k := 16) rfl (by rfl) ?_) | (refine Wk.step (m := 9) (k := 16) (v := _) rfl (by rfl) (fun wv hS => by obtain ⟨s0, s1, s2, s3, s4, s5⟩ := hS; go_simp; try with_reducible rfl) ?_)
      try simp only [Act.put, List.getElem_toArray, List.getElem_cons_succ, List.getElem_cons_zero, List.setIfInBounds_toArray, List.set_cons_zero, List.set_cons_succ]
      first | (refine Wk.skip (m := 8) (k := 17) rfl (by rfl) ?_) | (refine Wk.step (m := 8) (k := 17) (v := _) rfl (by rfl) (fun wv hS => by obtain ⟨s0, s1, s2, s3, s4, s5⟩ := hS; go_simp; try with_reducible rfl) ?_)
      try simp only [Act.put, List.getElem_toArray, List.getElem_cons_succ, List.getElem_cons_zero, List.setIfInBounds_toArray, List.set_cons_zero, List.set_cons_succ]
      first | (refine Wk.skip (m := 7) (k := 18) rfl (by rfl) ?_) | (refine Wk.step (m := 7) (k := 18) (v := _) rfl (by rfl) (fun wv hS => by obtain ⟨s0, s1, s2, s3, s4, s5⟩ := hS; go_simp; try with_reducible rfl) ?_)
      try simp only [Act.put, List.getElem_toArray, List.getElem_cons_succ, List.getElem_cons_zero, List.setIfInBounds_toArray, List.set_cons_zero, List.set_cons_succ]
      first | (refine Wk.skip (m := 6) (k := 19) rfl (by rfl) ?_) | (refine Wk.step (m := 6) (k := 19) (v := _) rfl (by rfl) (fun wv hS => by obtain ⟨s0, s1, s2, s3, s4, s5⟩ := hS; go_simp; try with_reducible rfl) ?_)
      try simp only [Act.put, List.getElem_toArray, List.getElem_cons_succ, List.getElem_cons_zero, List.setIfInBounds_toArray, List.set_cons_zero, List.set_cons_succ]
      first | (refine Wk.skip (m := 5) (k := 20) rfl (by rfl) ?_) | (refine Wk.step (m := 5) (k := 20) (v := _) rfl (by rfl) (fun wv hS => by obtain ⟨s0, s1, s2, s3, s4, s5⟩ := hS; go_simp; try with_reducible rfl) ?_)
      try simp only [Act.put, List.getElem_toArray, List.getElem_cons_succ, List.getElem_cons_zero, List.setIfInBounds_toArray, List.set_cons_zero, List.set_cons_succ]
      first | (refine Wk.skip (m := 4) (k := 21) rfl (by rfl) ?_) | (refine Wk.step (m := 4) (k := 21) (v := _) rfl (by rfl) (fun wv hS => by obtain ⟨s0, s1, s2, s3, s4, s5⟩ := hS; go_simp; try with_reducible rfl) ?_)
      try simp only [Act.put, List.getElem_toArray, List.getElem_cons_succ, List.getElem_cons_zero, List.setIfInBounds_toArray, List.set_cons_zero, List.set_cons_succ]
      first | (refine Wk.skip (m := 3) (k := 22) rfl (by rfl) ?_) | (refine Wk.step (m := 3) (k := 22) (v := _) rfl (by rfl) (fun wv hS => by obtain ⟨s0, s1, s2, s3, s4, s5⟩ := hS; go_simp; try with_reducible rfl) ?_)
      try simp only [Act.put, List.getElem_toArray, List.getElem_cons_succ, List.getElem_cons_zero, List.setIfInBounds_toArray, List.set_cons_zero, List.set_cons_succ]
      first | (refine Wk.skip (m := 2) (k := 23) rfl (by rfl) ?_) | (refine Wk.step (m := 2) (k := 23) (v := _) rfl (by rfl) (fun wv hS => by obtain ⟨s0, s1, s2, s3, s4, s5⟩ := hS; go_simp; try with_reducible rfl) ?_)
      try simp only [Act.put, List.getElem_toArray, List.getElem_cons_succ, List.getElem_cons_zero, List.setIfInBounds_toArray, List.set_cons_zero, List.set_cons_succ]
      first | (refine Wk.skip (m := 1) (k := 24) rfl (by rfl) ?_) | (refine Wk.step (m := 1) (k := 24) (v := _) rfl (by rfl) (fun wv hS => by obtain ⟨s0, s1, s2, s3, s4, s5⟩ := hS; go_simp; try with_reducible rfl) ?_)
      try simp only [Act.put, List.getElem_toArray, List.getElem_cons_succ, List.getElem_cons_zero, List.setIfInBounds_toArray, List.set_cons_zero, List.set_cons_succ]
      first | (refine Wk.skip (m := 0) (k := 25) rfl (by rfl) ?_) | (refine Wk.step (m := 0) (k := 25) (v := _) rfl (by rfl) (fun wv hS => by obtain ⟨s0, s1, s2, s3, s4, s5⟩ := hS; go_simp; try with_reducible rfl) ?_)
      try simp only [Act.put, List.getElem_toArray, List.getElem_cons_succ, List.getElem_cons_zero, List.setIfInBounds_toArray, List.set_cons_zero, List.set_cons_succ]
      refine Wk.done fun wE hE => ?_
      obtain ⟨mE, k0, k1, j0, j1, j2⟩ := hE
      go_wp2_with fail
      go_ret
      exact ⟨retB HR.out.symm, M0.trans mE⟩
    · have hs' : (x.ing != x.eg) = false := by simp only [bne, hs]; rfl
      cases hz : (x.ing == 0)
      · have HR := Lib.hid (show stepOkB zs n1 x = false by unfold stepOkB; rw [ht, hs, hz]; rfl)
        have HT := Lib.hid ht
        clear ht
        go_enter Try.func56, Try.ntmps56
        go_wp2_with fail
        refine wp_region_wk (fun w' => Mk0 ((w.alloc (Obj.cells #[Value.slice a0 n0 c0, Value.slice a1 n1 c1] 35)).alloc (Obj.cells #[Value.int .i64 x.nd, Value.int .i64 x.ing, Value.int .i64 x.eg] 84)) w' ∧ w'.cell? ⟨w.heap.size, 0, none⟩ = some (.slice a0 n0 c0) ∧ w'.cell? ⟨w.heap.size, 1, none⟩ = some (.slice a1 n1 c1) ∧ w'.cell? ⟨w.heap.size + 1, 0, none⟩ = some (.int .i64 x.nd) ∧ w'.cell? ⟨w.heap.size + 1, 1, none⟩ = some (.int .i64 x.ing) ∧ w'.cell? ⟨w.heap.size + 1, 2, none⟩ = some (.int .i64 x.eg)) (by kernel_rfl) (by kernel_rfl) (⟨Mk.drew1 _, k0, k1, j0, j1, j2⟩) ?_
        change Wk _ _ _ _ 26 0 _
        first | (refine Wk.skip (m := 25) (k := 0) rfl (by rfl) ?_) | (refine Wk.step (m := 25) (k := 0) (v := _) rfl (by rfl) (fun wv hS => by obtain ⟨s0, s1, s2, s3, s4, s5⟩ := hS; go_simp; try with_reducible rfl) ?_)
        try simp only [Act.put, List.getElem_toArray, List.getElem_cons_zero, List.setIfInBounds_toArray, List.set_cons_zero, List.set_cons_succ]
        first | (refine Wk.skip (m := 24) (k := 1) rfl (by rfl) ?_) | (refine Wk.step (m := 24) (k := 1) (v := _) rfl (by rfl) (fun wv hS => by obtain ⟨s0, s1, s2, s3, s4, s5⟩ := hS; go_simp; try with_reducible rfl) ?_)
        try simp only [Act.put, List.getElem_toArray, List.getElem_cons_succ, List.getElem_cons_zero, List.setIfInBounds_toArray, List.set_cons_zero, List.set_cons_succ]
        first | (refine Wk.skip (m := 23) (k := 2) rfl (by rfl) ?_) | (refine Wk.step (m := 23) (k := 2) (v := _) rfl (by rfl) (fun wv hS => by obtain ⟨s0, s1, s2, s3, s4, s5⟩ := hS; go_simp; try with_reducible rfl) ?_)
        try simp only [Act.put, List.getElem_toArray, List.getElem_cons_succ, List.getElem_cons_zero, List.setIfInBounds_toArray, List.set_cons_zero, List.set_cons_succ]
        first | (refine Wk.skip (m := 22) (k := 3) rfl (by rfl) ?_) | (refine Wk.step (m := 22) (k := 3) (v := _) rfl (by rfl) (fun wv hS => by obtain ⟨s0, s1, s2, s3, s4, s5⟩ := hS; go_simp; try with_reducible rfl) ?_)
        try simp only [Act.put, List.getElem_toArray, List.getElem_cons_succ, List.getElem_cons_zero, List.setIfInBounds_toArray, List.set_cons_zero, List.set_cons_succ]
        first | (refine Wk.skip (m := 21) (k := 4) rfl (by rfl) ?_) | (refine Wk.step (m := 21) (k := 4) (v := _) rfl (by rfl) (fun wv hS => by obtain ⟨s0, s1, s2, s3, s4, s5⟩ := hS; go_simp; try with_reducible rfl) ?_)
        try simp only [Act.put, List.getElem_toArray, List.getElem_cons_succ, List.getElem_cons_zero, List.setIfInBounds_toArray, List.set_cons_zero, List.set_cons_succ]
        refine Wk.call (m := 20) (k := 5) (v := .int .i64 (kindOf zs x.nd x.ing n1)) _ _ rfl (by rfl) (fun wv hS => by obtain ⟨s0, s1, s2, s3, s4, s5⟩ := hS; go_simp; first | done | exact ⟨rfl, rfl⟩ | with_reducible rfl) (fun wv hS => ?_) ?_; · obtain ⟨s0, s1, s2, s3, s4, s5⟩ := hS; refine (implKind a0 a1 n0 c0 n1 c1 B zs x.nd x.ing wv (h.mk (M0.trans s0) hB (.inr (Nat.le_refl _))) (Nat.le_trans hB (M0.trans s0).size) hn).mono ?_; rintro e w' ⟨rfl, mm⟩; exact ⟨rfl, s0.trans mm, mm.cellAt s1, mm.cellAt s2, mm.cellAt s3, mm.cellAt s4, mm.cellAt s5⟩
        try simp only [Act.put, List.getElem_toArray, List.getElem_cons_succ, List.getElem_cons_zero, List.setIfInBounds_toArray, List.set_cons_zero, List.set_cons_succ]
        first | (refine Wk.skip (m := 19) (k := 6) rfl (by rfl) ?_) | (refine Wk.step (m := 19) (k := 6) (v := _) rfl (by rfl) (fun wv hS => by obtain ⟨s0, s1, s2, s3, s4, s5⟩ := hS; go_simp; try with_reducible rfl) ?_)
        try simp only [Act.put, List.getElem_toArray, List.getElem_cons_succ, List.getElem_cons_zero, List.setIfInBounds_toArray, List.set_cons_zero, List.set_cons_succ]
        first | (refine Wk.skip (m := 18) (k := 7) rfl (by rfl) ?_) | (refine Wk.step (m := 18) (k := 7) (v := _) rfl (by rfl) (fun wv hS => by obtain ⟨s0, s1, s2, s3, s4, s5⟩ := hS; go_simp; try with_reducible rfl) ?_)
        try simp only [Act.put, List.getElem_toArray, List.getElem_cons_succ, List.getElem_cons_zero, List.setIfInBounds_toArray, List.set_cons_zero, List.set_cons_succ]
        first | (refine Wk.skip (m := 17) (k := 8) rfl (by rfl) ?_) | (refine Wk.step (m := 17) (k := 8) (v := _) rfl (by rfl) (fun wv hS => by obtain ⟨s0, s1, s2, s3, s4, s5⟩ := hS; go_simp; try with_reducible rfl) ?_)
        try simp only [Act.put, List.getElem_toArray, List.getElem_cons_succ, List.getElem_cons_zero, List.setIfInBounds_toArray, List.set_cons_zero, List.set_cons_succ]
        first | (refine Wk.skip (m := 16) (k := 9) rfl (by rfl) ?_) | (refine Wk.step (m := 16) (k := 9) (v := _) rfl (by rfl) (fun wv hS => by obtain ⟨s0, s1, s2, s3, s4, s5⟩ := hS; go_simp; try with_reducible rfl) ?_)
        try simp only [Act.put, List.getElem_toArray, List.getElem_cons_succ, List.getElem_cons_zero, List.setIfInBounds_toArray, List.set_cons_zero, List.set_cons_succ]
        first | (refine Wk.skip (m := 15) (k := 10) rfl (by rfl) ?_) | (refine Wk.step (m := 15) (k := 10) (v := _) rfl (by rfl) (fun wv hS => by obtain ⟨s0, s1, s2, s3, s4, s5⟩ := hS; go_simp; try with_reducible rfl) ?_)
        try simp only [Act.put, List.getElem_toArray, List.getElem_cons_succ, List.getElem_cons_zero, List.setIfInBounds_toArray, List.set_cons_zero, List.set_cons_succ]
        refine Wk.call (m := 14) (k := 11) (v := .int .i64 (kindOf zs x.nd x.eg n1)) _ _ rfl (by rfl) (fun wv hS => by obtain ⟨s0, s1, s2, s3, s4, s5⟩ := hS; go_simp; first | done | exact ⟨rfl, rfl⟩ | with_reducible rfl) (fun wv hS => ?_) ?_; · obtain ⟨s0, s1, s2, s3, s4, s5⟩ := hS; refine (implKind a0 a1 n0 c0 n1 c1 B zs x.nd x.eg wv (h.mk (M0.trans s0) hB (.inr (Nat.le_refl _))) (Nat.le_trans hB (M0.trans s0).size) hn).mono ?_; rintro e w' ⟨rfl, mm⟩; exact ⟨rfl, s0.trans mm, mm.cellAt s1, mm.cellAt s2, mm.cellAt s3, mm.cellAt s4, mm.cellAt s5⟩
        try simp only [Act.put, List.getElem_toArray, List.getElem_cons_succ, List.getElem_cons_zero, List.setIfInBounds_toArray, List.set_cons_zero, List.set_cons_succ]
        refine Wk.call (m := 13) (k := 12) (v := .bool true) _ _ rfl (by rfl) (fun wv hS => by obtain ⟨s0, s1, s2, s3, s4, s5⟩ := hS; go_simp; first | done | exact ⟨rfl, rfl⟩ | with_reducible rfl) (fun wv hS => ?_) ?_; · obtain ⟨s0, s1, s2, s3, s4, s5⟩ := hS; refine (implTransit _ _ wv).mono ?_; rintro e w' ⟨rfl, mm⟩; exact ⟨by rw [HT.out], s0.trans mm, mm.cellAt s1, mm.cellAt s2, mm.cellAt s3, mm.cellAt s4, mm.cellAt s5⟩
        try simp only [Act.put, List.getElem_toArray, List.getElem_cons_succ, List.getElem_cons_zero, List.setIfInBounds_toArray, List.set_cons_zero, List.set_cons_succ]
        first | (refine Wk.skip (m := 12) (k := 13) rfl (by rfl) ?_) | (refine Wk.step (m := 12) (k := 13) (v := _) rfl (by rfl) (fun wv hS => by obtain ⟨s0, s1, s2, s3, s4, s5⟩ := hS; go_simp; try with_reducible rfl) ?_)
        try simp only [Act.put, List.getElem_toArray, List.getElem_cons_succ, List.getElem_cons_zero, List.setIfInBounds_toArray, List.set_cons_zero, List.set_cons_succ]
        first | (refine Wk.skip (m := 11) (k := 14) rfl (by rfl) ?_) | (refine Wk.step (m := 11) (k := 14) (v := _) rfl (by rfl) (fun wv hS => by obtain ⟨s0, s1, s2, s3, s4, s5⟩ := hS; go_simp; try with_reducible rfl) ?_)
        try simp only [Act.put, List.getElem_toArray, List.getElem_cons_succ, List.getElem_cons_zero, List.setIfInBounds_toArray, List.set_cons_zero, List.set_cons_succ]
        first | (refine Wk.skip (m := 10) (k := 15) rfl (by rfl) ?_) | (refine Wk.step (m := 10) (k := 15) (v := _) rfl (by rfl) (fun wv hS => by obtain ⟨s0, s1, s2, s3, s4, s5⟩ := hS; go_simp; try with_reducible rfl) ?_)
        try simp only [Act.put, List.getElem_toArray, List.getElem_cons_succ, List.getElem_cons_zero, List.setIfInBounds_toArray, List.set_cons_zero, List.set_cons_succ]
        first | (refine Wk.skip (m := 9) (k := 16) rfl (by rfl) ?_) | (refine Wk.step (m := 9) (k := 16) (v := _) rfl (by rfl) (fun wv hS => by obtain ⟨s0, s1, s2, s3, s4, s5⟩ := hS; go_simp; try with_reducible rfl) ?_)
        try simp only [Act.put, List.getElem_toArray, List.getElem_cons_succ, List.getElem_cons_zero, List.setIfInBounds_toArray, List.set_cons_zero, List.set_cons_succ]
        first | (refine Wk.skip (m := 8) (k := 17) rfl (by rfl) ?_) | (refine Wk.step (m := 8) (k := 17) (v := _) rfl (by rfl) (fun wv hS => by obtain ⟨s0, s1, s2, s3, s4, s5⟩ := hS; go_simp; try with_reducible rfl) ?_)
        try simp only [Act.put, List.getElem_toArray, List.getElem_cons_succ, List.getElem_cons_zero, List.setIfInBounds_toArray, List.set_cons_zero, List.set_cons_succ]
        first | (refine Wk.skip (m := 7) (k := 18) rfl (by rfl) ?_) | (refine Wk.step (m := 7) (k := 18) (v := _) rfl (by rfl) (fun wv hS => by obtain ⟨s0, s1, s2, s3, s4, s5⟩ := hS; go_simp; try with_reducible rfl) ?_)
        try simp only [Act.put, List.getElem_toArray, List.getElem_cons_succ, List.getElem_cons_zero, List.setIfInBounds_toArray, List.set_cons_zero, List.set_cons_succ]
        first | (refine Wk.skip (m := 6) (k := 19) rfl (by rfl) ?_) | (refine Wk.step (m := 6) (k := 19) (v := _) rfl (by rfl) (fun wv hS => by obtain ⟨s0, s1, s2, s3, s4, s5⟩ := hS; go_simp; try with_reducible rfl) ?_)
        try simp only [Act.put, List.getElem_toArray, List.getElem_cons_succ, List.getElem_cons_zero, List.setIfInBounds_toArray, List.set_cons_zero, List.set_cons_succ]
        first | (refine Wk.skip (m := 5) (k := 20) rfl (by rfl) ?_) | (refine Wk.step (m := 5) (k := 20) (v := _) rfl (by rfl) (fun wv hS => by obtain ⟨s0, s1, s2, s3, s4, s5⟩ := hS; go_simp; try with_reducible rfl) ?_)
        try simp only [Act.put, List.getElem_toArray, List.getElem_cons_succ, List.getElem_cons_zero, List.setIfInBounds_toArray, List.set_cons_zero, List.set_cons_succ]
        first | (refine Wk.skip (m := 4) (k := 21) rfl (by rfl) ?_) | (refine Wk.step (m := 4) (k := 21) (v := _) rfl (by rfl) (fun wv hS => by obtain ⟨s0, s1, s2, s3, s4, s5⟩ := hS; go_simp; try with_reducible rfl) ?_)
        try simp only [Act.put, List.getElem_toArray, List.getElem_cons_succ, List.getElem_cons_zero, List.setIfInBounds_toArray, List.set_cons_zero, List.set_cons_succ]
        first | (refine Wk.skip (m := 3) (k := 22) rfl (by rfl) ?_) | (refine Wk.step (m := 3) (k := 22) (v := _) rfl (by rfl) (fun wv hS => by obtain ⟨s0, s1, s2, s3, s4, s5⟩ := hS; go_simp; try with_reducible rfl) ?_)
        try simp only [Act.put, List.getElem_toArray, List.getElem_cons_succ, List.getElem_cons_zero, List.setIfInBounds_toArray, List.set_cons_zero, List.set_cons_succ]
        first | (refine Wk.skip (m := 2) (k := 23) rfl (by rfl) ?_) | (refine Wk.step (m := 2) (k := 23) (v := _) rfl (by rfl) (fun wv hS => by obtain ⟨s0, s1, s2, s3, s4, s5⟩ := hS; go_simp; try with_reducible rfl) ?_)
        try simp only [Act.put, List.getElem_toArray, List.getElem_cons_succ, List.getElem_cons_zero, List.setIfInBounds_toArray, List.set_cons_zero, List.set_cons_succ]
        first | (refine Wk.skip (m := 1) (k := 24) rfl (by rfl) ?_) | (refine Wk.step (m := 1) (k := 24) (v := _) rfl (by rfl) (fun wv hS => by obtain ⟨s0, s1, s2, s3, s4, s5⟩ := hS; go_simp; try with_reducible rfl) ?_)
        try simp only [Act.put, List.getElem_toArray, List.getElem_cons_succ, List.getElem_cons_zero, List.setIfInBounds_toArray, List.set_cons_zero, List.set_cons_succ]
        first | (refine Wk.skip (m := 0) (k := 25) rfl (by rfl) ?_) | (refine Wk.step (m := 0) (k := 25) (v := _) rfl (by rfl) (fun wv hS => by obtain ⟨s0, s1, s2, s3, s4, s5⟩ := hS; go_simp; try with_reducible rfl) ?_)
        try simp only [Act.put, List.getElem_toArray, List.getElem_cons_succ, List.getElem_cons_zero, List.setIfInBounds_toArray, List.set_cons_zero, List.set_cons_succ]
        refine Wk.done fun wE hE => ?_
        obtain ⟨mE, k0, k1, j0, j1, j2⟩ := hE
        go_wp2_with fail
        go_ret
        exact ⟨retB HR.out.symm, M0.trans mE⟩
      · have HR := Lib.hid (show stepOkB zs n1 x = true by unfold stepOkB; rw [ht, hs, hz]; rfl)
        have HT := Lib.hid ht
        clear ht
        go_enter Try.func56, Try.ntmps56
        go_wp2_with fail
        refine wp_region_wk (fun w' => Mk0 ((w.alloc (Obj.cells #[Value.slice a0 n0 c0, Value.slice a1 n1 c1] 35)).alloc (Obj.cells #[Value.int .i64 x.nd, Value.int .i64 x.ing, Value.int .i64 x.eg] 84)) w' ∧ w'.cell? ⟨w.heap.size, 0, none⟩ = some (.slice a0 n0 c0) ∧ w'.cell? ⟨w.heap.size, 1, none⟩ = some (.slice a1 n1 c1) ∧ w'.cell? ⟨w.heap.size + 1, 0, none⟩ = some (.int .i64 x.nd) ∧ w'.cell? ⟨w.heap.size + 1, 1, none⟩ = some (.int .i64 x.ing) ∧ w'.cell? ⟨w.heap.size + 1, 2, none⟩ = some (.int .i64 x.eg)) (by kernel_rfl) (by kernel_rfl) (⟨Mk.drew1 _, k0, k1, j0, j1, j2⟩) ?_
        change Wk _ _ _ _ 26 0 _
        first | (refine Wk.skip (m := 25) (k := 0) rfl (by rfl) ?_) | (refine Wk.step (m := 25) (k := 0) (v := _) rfl (by rfl) (fun wv hS => by obtain ⟨s0, s1, s2, s3, s4, s5⟩ := hS; go_simp; try with_reducible rfl) ?_)
        try simp only [Act.put, List.getElem_toArray, List.getElem_cons_zero, List.setIfInBounds_toArray, List.set_cons_zero, List.set_cons_succ]
        first | (refine Wk.skip (m := 24) (k := 1) rfl (by rfl) ?_) | (refine Wk.step (m := 24) (k := 1) (v := _) rfl (by rfl) (fun wv hS => by obtain ⟨s0, s1, s2, s3, s4, s5⟩ := hS; go_simp; try with_reducible rfl) ?_)
        try simp only [Act.put, List.getElem_toArray, List.getElem_cons_succ, List.getElem_cons_zero, List.setIfInBounds_toArray, List.set_cons_zero, List.set_cons_succ]
        first | (refine Wk.skip (m := 23) (k := 2) rfl (by rfl) ?_) | (refine Wk.step (m := 23) (k := 2) (v := _) rfl (by rfl) (fun wv hS => by obtain ⟨s0, s1, s2, s3, s4, s5⟩ := hS; go_simp; try with_reducible rfl) ?_)
        try simp only [Act.put, List.getElem_toArray, List.getElem_cons_succ, List.getElem_cons_zero, List.setIfInBounds_toArray, List.set_cons_zero, List.set_cons_succ]
        first | (refine Wk.skip (m := 22) (k := 3) rfl (by rfl) ?_) | (refine Wk.step (m := 22) (k := 3) (v := _) rfl (by rfl) (fun wv hS => by obtain ⟨s0, s1, s2, s3, s4, s5⟩ := hS; go_simp; try with_reducible rfl) ?_)
        try simp only [Act.put, List.getElem_toArray, List.getElem_cons_succ, List.getElem_cons_zero, List.setIfInBounds_toArray, List.set_cons_zero, List.set_cons_succ]
        first | (refine Wk.skip (m := 21) (k := 4) rfl (by rfl) ?_) | (refine Wk.step (m := 21) (k := 4) (v := _) rfl (by rfl) (fun wv hS => by obtain ⟨s0, s1, s2, s3, s4, s5⟩ := hS; go_simp; try with_reducible rfl) ?_)
        try simp only [Act.put, List.getElem_toArray, List.getElem_cons_succ, List.getElem_cons_zero, List.setIfInBounds_toArray, List.set_cons_zero, List.set_cons_succ]
        refine Wk.call (m := 20) (k := 5) (v := .int .i64 (kindOf zs x.nd x.ing n1)) _ _ rfl (by rfl) (fun wv hS => by obtain ⟨s0, s1, s2, s3, s4, s5⟩ := hS; go_simp; first | done | exact ⟨rfl, rfl⟩ | with_reducible rfl) (fun wv hS => ?_) ?_; · obtain ⟨s0, s1, s2, s3, s4, s5⟩ := hS; refine (implKind a0 a1 n0 c0 n1 c1 B zs x.nd x.ing wv (h.mk (M0.trans s0) hB (.inr (Nat.le_refl _))) (Nat.le_trans hB (M0.trans s0).size) hn).mono ?_; rintro e w' ⟨rfl, mm⟩; exact ⟨rfl, s0.trans mm, mm.cellAt s1, mm.cellAt s2, mm.cellAt s3, mm.cellAt s4, mm.cellAt s5⟩
        try simp only [Act.put, List.getElem_toArray, List.getElem_cons_succ, List.getElem_cons_zero, List.setIfInBounds_toArray, List.set_cons_zero, List.set_cons_succ]
        first | (refine Wk.skip (m := 19) (k := 6) rfl (by rfl) ?_) | (refine Wk.step (m := 19) (k := 6) (v := _) rfl (by rfl) (fun wv hS => by obtain ⟨s0, s1, s2, s3, s4, s5⟩ := hS; go_simp; try with_reducible rfl) ?_)
        try simp only [Act.put, List.getElem_toArray, List.getElem_cons_succ, List.getElem_cons_zero, List.setIfInBounds_toArray, List.set_cons_zero, List.set_cons_succ]
        first | (refine Wk.skip (m := 18) (k := 7) rfl (by rfl) ?_) | (refine Wk.step (m := 18) (k := 7) (v := _) rfl (by rfl) (fun wv hS => by obtain ⟨s0, s1, s2, s3, s4, s5⟩ := hS; go_simp; try with_reducible rfl) ?_)
        try simp only [Act.put, List.getElem_toArray, List.getElem_cons_succ, List.getElem_cons_zero, List.setIfInBounds_toArray, List.set_cons_zero, List.set_cons_succ]
        first | (refine Wk.skip (m := 17) (k := 8) rfl (by rfl) ?_) | (refine Wk.step (m := 17) (k := 8) (v := _) rfl (by rfl) (fun wv hS => by obtain ⟨s0, s1, s2, s3, s4, s5⟩ := hS; go_simp; try with_reducible rfl) ?_)
        try simp only [Act.put, List.getElem_toArray, List.getElem_cons_succ, List.getElem_cons_zero, List.setIfInBounds_toArray, List.set_cons_zero, List.set_cons_succ]
        first | (refine Wk.skip (m := 16) (k := 9) rfl (by rfl) ?_) | (refine Wk.step (m := 16) (k := 9) (v := _) rfl (by rfl) (fun wv hS => by obtain ⟨s0, s1, s2, s3, s4, s5⟩ := hS; go_simp; try with_reducible rfl) ?_)
        try simp only [Act.put, List.getElem_toArray, List.getElem_cons_succ, List.getElem_cons_zero, List.setIfInBounds_toArray, List.set_cons_zero, List.set_cons_succ]
        first | (refine Wk.skip (m := 15) (k := 10) rfl (by rfl) ?_) | (refine Wk.step (m := 15) (k := 10) (v := _) rfl (by rfl) (fun wv hS => by obtain ⟨s0, s1, s2, s3, s4, s5⟩ := hS; go_simp; try with_reducible rfl) ?_)
        try simp only [Act.put, List.getElem_toArray, List.getElem_cons_succ, List.getElem_cons_zero, List.setIfInBounds_toArray, List.set_cons_zero, List.set_cons_succ]
        refine Wk.call (m := 14) (k := 11) (v := .int .i64 (kindOf zs x.nd x.eg n1)) _ _ rfl (by rfl) (fun wv hS => by obtain ⟨s0, s1, s2, s3, s4, s5⟩ := hS; go_simp; first | done | exact ⟨rfl, rfl⟩ | with_reducible rfl) (fun wv hS => ?_) ?_; · obtain ⟨s0, s1, s2, s3, s4, s5⟩ := hS; refine (implKind a0 a1 n0 c0 n1 c1 B zs x.nd x.eg wv (h.mk (M0.trans s0) hB (.inr (Nat.le_refl _))) (Nat.le_trans hB (M0.trans s0).size) hn).mono ?_; rintro e w' ⟨rfl, mm⟩; exact ⟨rfl, s0.trans mm, mm.cellAt s1, mm.cellAt s2, mm.cellAt s3, mm.cellAt s4, mm.cellAt s5⟩
        try simp only [Act.put, List.getElem_toArray, List.getElem_cons_succ, List.getElem_cons_zero, List.setIfInBounds_toArray, List.set_cons_zero, List.set_cons_succ]
        refine Wk.call (m := 13) (k := 12) (v := .bool true) _ _ rfl (by rfl) (fun wv hS => by obtain ⟨s0, s1, s2, s3, s4, s5⟩ := hS; go_simp; first | done | exact ⟨rfl, rfl⟩ | with_reducible rfl) (fun wv hS => ?_) ?_; · obtain ⟨s0, s1, s2, s3, s4, s5⟩ := hS; refine (implTransit _ _ wv).mono ?_; rintro e w' ⟨rfl, mm⟩; exact ⟨by rw [HT.out], s0.trans mm, mm.cellAt s1, mm.cellAt s2, mm.cellAt s3, mm.cellAt s4, mm.cellAt s5⟩
        try simp only [Act.put, List.getElem_toArray, List.getElem_cons_succ, List.getElem_cons_zero, List.setIfInBounds_toArray, List.set_cons_zero, List.set_cons_succ]
        first | (refine Wk.skip (m := 12) (k := 13) rfl (by rfl) ?_) | (refine Wk.step (m := 12) (k := 13) (v := _) rfl (by rfl) (fun wv hS => by obtain ⟨s0, s1, s2, s3, s4, s5⟩ := hS; go_simp; try with_reducible rfl) ?_)
        try simp only [Act.put, List.getElem_toArray, List.getElem_cons_succ, List.getElem_cons_zero, List.setIfInBounds_toArray, List.set_cons_zero, List.set_cons_succ]
        first | (refine Wk.skip (m := 11) (k := 14) rfl (by rfl) ?_) | (refine Wk.step (m := 11) (k := 14) (v := _) rfl (by rfl) (fun wv hS => by obtain ⟨s0, s1, s2, s3, s4, s5⟩ := hS; go_simp; try with_reducible rfl) ?_)
        try simp only [Act.put, List.getElem_toArray, List.getElem_cons_succ, List.getElem_cons_zero, List.setIfInBounds_toArray, List.set_cons_zero, List.set_cons_succ]
        first | (refine Wk.skip (m := 10) (k := 15) rfl (by rfl) ?_) | (refine Wk.step (m := 10) (k := 15) (v := _) rfl (by rfl) (fun wv hS => by obtain ⟨s0, s1, s2, s3, s4, s5⟩ := hS; go_simp; try with_reducible rfl) ?_)
        try simp only [Act.put, List.getElem_toArray, List.getElem_cons_succ, List.getElem_cons_zero, List.setIfInBounds_toArray, List.set_cons_zero, List.set_cons_succ]
        first | (refine Wk.skip (m := 9) (k := 16) rfl (by rfl) ?_) | (refine Wk.step (m := 9) (k := 16) (v := _) rfl (by rfl) (fun wv hS => by obtain ⟨s0, s1, s2, s3, s4, s5⟩ := hS; go_simp; try with_reducible rfl) ?_)
        try simp only [Act.put, List.getElem_toArray, List.getElem_cons_succ, List.getElem_cons_zero, List.setIfInBounds_toArray, List.set_cons_zero, List.set_cons_succ]
        first | (refine Wk.skip (m := 8) (k := 17) rfl (by rfl) ?_) | (refine Wk.step (m := 8) (k := 17) (v := _) rfl (by rfl) (fun wv hS => by obtain ⟨s0, s1, s2, s3, s4, s5⟩ := hS; go_simp; try with_reducible rfl) ?_)
        try simp only [Act.put, List.getElem_toArray, List.getElem_cons_succ, List.getElem_cons_zero, List.setIfInBounds_toArray, List.set_cons_zero, List.set_cons_succ]
        first | (refine Wk.skip (m := 7) (k := 18) rfl (by rfl) ?_) | (refine Wk.step (m := 7) (k := 18) (v := _) rfl (by rfl) (fun wv hS => by obtain ⟨s0, s1, s2, s3, s4, s5⟩ := hS; go_simp; try with_reducible rfl) ?_)
        try simp only [Act.put, List.getElem_toArray, List.getElem_cons_succ, List.getElem_cons_zero, List.setIfInBounds_toArray, List.set_cons_zero, List.set_cons_succ]
        first | (refine Wk.skip (m := 6) (k := 19) rfl (by rfl) ?_) | (refine Wk.step (m := 6) (k := 19) (v := _) rfl (by rfl) (fun wv hS => by obtain ⟨s0, s1, s2, s3, s4, s5⟩ := hS; go_simp; try with_reducible rfl) ?_)
        try simp only [Act.put, List.getElem_toArray, List.getElem_cons_succ, List.getElem_cons_zero, List.setIfInBounds_toArray, List.set_cons_zero, List.set_cons_succ]
        first | (refine Wk.skip (m := 5) (k := 20) rfl (by rfl) ?_) | (refine Wk.step (m := 5) (k := 20) (v := _) rfl (by rfl) (fun wv hS => by obtain ⟨s0, s1, s2, s3, s4, s5⟩ := hS; go_simp; try with_reducible rfl) ?_)
        try simp only [Act.put, List.getElem_toArray, List.getElem_cons_succ, List.getElem_cons_zero, List.setIfInBounds_toArray, List.set_cons_zero, List.set_cons_succ]
        first | (refine Wk.skip (m := 4) (k := 21) rfl (by rfl) ?_) | (refine Wk.step (m := 4) (k := 21) (v := _) rfl (by rfl) (fun wv hS => by obtain ⟨s0, s1, s2, s3, s4, s5⟩ := hS; go_simp; try with_reducible rfl) ?_)
        try simp only [Act.put, List.getElem_toArray, List.getElem_cons_succ, List.getElem_cons_zero, List.setIfInBounds_toArray, List.set_cons_zero, List.set_cons_succ]
        first | (refine Wk.skip (m := 3) (k := 22) rfl (by rfl) ?_) | (refine Wk.step (m := 3) (k := 22) (v := _) rfl (by rfl) (fun wv hS => by obtain ⟨s0, s1, s2, s3, s4, s5⟩ := hS; go_simp; try with_reducible rfl) ?_)
        try simp only [Act.put, List.getElem_toArray, List.getElem_cons_succ, List.getElem_cons_zero, List.setIfInBounds_toArray, List.set_cons_zero, List.set_cons_succ]
        first | (refine Wk.skip (m := 2) (k := 23) rfl (by rfl) ?_) | (refine Wk.step (m := 2) (k := 23) (v := _) rfl (by rfl) (fun wv hS => by obtain ⟨s0, s1, s2, s3, s4, s5⟩ := hS; go_simp; try with_reducible rfl) ?_)
        try simp only [Act.put, List.getElem_toArray, List.getElem_cons_succ, List.getElem_cons_zero, List.setIfInBounds_toArray, List.set_cons_zero, List.set_cons_succ]
        first | (refine Wk.skip (m := 1) (k := 24) rfl (by rfl) ?_) | (refine Wk.step (m := 1) (k := 24) (v := _) rfl (by rfl) (fun wv hS => by obtain ⟨s0, s1, s2, s3, s4, s5⟩ := hS; go_simp; try with_reducible rfl) ?_)
        try simp only [Act.put, List.getElem_toArray, List.getElem_cons_succ, List.getElem_cons_zero, List.setIfInBounds_toArray, List.set_cons_zero, List.set_cons_succ]
        first | (refine Wk.skip (m := 0) (k := 25) rfl (by rfl) ?_) | (refine Wk.step (m := 0) (k := 25) (v := _) rfl (by rfl) (fun wv hS => by obtain ⟨s0, s1, s2, s3, s4, s5⟩ := hS; go_simp; try with_reducible rfl) ?_)
        try simp only [Act.put, List.getElem_toArray, List.getElem_cons_succ, List.getElem_cons_zero, List.setIfInBounds_toArray, List.set_cons_zero, List.set_cons_succ]
        refine Wk.done fun wE hE => ?_
        obtain ⟨mE, k0, k1, j0, j1, j2⟩ := hE
        go_wp2_with fail
        go_ret
        exact ⟨retB HR.out.symm, M0.trans mE⟩

end Go.Proofs.Ytpkgpaeecjlnoaa
