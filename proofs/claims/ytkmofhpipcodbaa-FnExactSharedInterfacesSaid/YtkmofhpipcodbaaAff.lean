
/- Affects, of both sides. -/
import Derived.Test.YtkmofhpipcodbaaContI
import Derived.Test.YtkmofhpipcodbaaUsed
import Derived.Test.YtkmofhpipcodbaaRealm
import Derived.Test.YtkmofhpipcodbaaNote
import Derived.Deep.RegionHeld3
namespace Go.Proofs.Ytkmofhpipcodbaa
open Go.ChangeShapes Go.WideShapes Go.ChangeAt Go.RowKit
set_option linter.unusedVariables false
def affB (ps : List TPathPart) (n : Nat) (x : TRevocation) : Bool := revOk x.nd x.ifc x.til && inUp (nthI (usedAll ps n)) (ifN x.nd x.ifc) (usedAll ps n).length
theorem usedAll_len (ps : List TPathPart) (n : Nat) : (usedAll ps n).length ≤ 2 * szPathPart ps n := by
  have h1 := usedUp_len (pathSt ps n) (pathSt ps n).length
  have h2 := pathSt_le ps n
  unfold usedAll
  omega
set_option maxRecDepth 100000 in
set_option maxHeartbeats 4000000 in
theorem specAff (x : TRevocation) (a : Option Addr) (n c B : Nat) (ps : List TPathPart) (w : World) (h : HasPathPart w B a n ps) (hB : B ≤ w.heap.size) (hn : szPathPart ps n ≤ 1048576) :
    Calls Try.prog 75 #[.agg #[.slice a n c], .agg #[.int .i64 x.nd, .int .i64 x.ifc, .int .i64 x.til]] w fun e w' => e = .returned (.bool (affB ps n x)) ∧ Mk0 w w' := by
  have M0 := (Mk.alloc w (Obj.cells #[Value.slice a n c] 29)).new (Obj.cells #[Value.int .i64 x.nd, Value.int .i64 x.ifc, Value.int .i64 x.til] 128)
  have k0 : ((w.alloc (Obj.cells #[Value.slice a n c] 29)).alloc (Obj.cells #[Value.int .i64 x.nd, Value.int .i64 x.ifc, Value.int .i64 x.til] 128)).cell? ⟨w.heap.size, 0, none⟩ = some (.slice a n c) := by simp [go_sem]
  have j0 : ((w.alloc (Obj.cells #[Value.slice a n c] 29)).alloc (Obj.cells #[Value.int .i64 x.nd, Value.int .i64 x.ifc, Value.int .i64 x.til] 128)).cell? ⟨w.heap.size + 1, 0, none⟩ = some (.int .i64 x.nd) := by simp [go_sem]
  have j1 : ((w.alloc (Obj.cells #[Value.slice a n c] 29)).alloc (Obj.cells #[Value.int .i64 x.nd, Value.int .i64 x.ifc, Value.int .i64 x.til] 128)).cell? ⟨w.heap.size + 1, 1, none⟩ = some (.int .i64 x.ifc) := by simp [go_sem]
  have j2 : ((w.alloc (Obj.cells #[Value.slice a n c] 29)).alloc (Obj.cells #[Value.int .i64 x.nd, Value.int .i64 x.ifc, Value.int .i64 x.til] 128)).cell? ⟨w.heap.size + 1, 2, none⟩ = some (.int .i64 x.til) := by simp [go_sem]
  cases hv : revOk x.nd x.ifc x.til
  · have HR := Lib.hid (show affB ps n x = false by unfold affB; rw [hv]; rfl)
    have HV := Lib.hid hv
    clear hv
    go_enter Try.func75, Try.ntmps75
    go_wp2_with fail
    refine wp_region_wk (fun w' => Mk0 ((w.alloc (Obj.cells #[Value.slice a n c] 29)).alloc (Obj.cells #[Value.int .i64 x.nd, Value.int .i64 x.ifc, Value.int .i64 x.til] 128)) w' ∧ w'.cell? ⟨w.heap.size, 0, none⟩ = some (.slice a n c) ∧ w'.cell? ⟨w.heap.size + 1, 0, none⟩ = some (.int .i64 x.nd) ∧ w'.cell? ⟨w.heap.size + 1, 1, none⟩ = some (.int .i64 x.ifc) ∧ w'.cell? ⟨w.heap.size + 1, 2, none⟩ = some (.int .i64 x.til)) (by kernel_rfl) (by kernel_rfl) (⟨Mk.drew1 _, k0, j0, j1, j2⟩) ?_
    change Wk _ _ _ _ 14 0 _
    first | (refine Wk.skip (m := 13) (k := 0) rfl (by rfl) ?_) | (refine Wk.step (m := 13) (k := 0) (v := _) rfl (by rfl) (fun wv hS => by obtain ⟨s0, s1, s2, s3, s4⟩ := hS; go_simp; try with_reducible rfl) ?_)
    try simp only [Act.put, List.getElem_toArray, List.getElem_cons_zero, List.setIfInBounds_toArray, List.set_cons_zero, List.set_cons_succ]
    refine Wk.call (m := 12) (k := 1) (v := .bool false) _ _ rfl (by rfl) (fun wv hS => by obtain ⟨s0, s1, s2, s3, s4⟩ := hS; go_simp; first | done | exact ⟨rfl, rfl⟩ | with_reducible rfl) (fun wv hS => ?_) ?_; · obtain ⟨s0, s1, s2, s3, s4⟩ := hS; refine (specVRev x.nd x.ifc x.til wv).mono ?_; rintro e w' ⟨he, mm⟩; exact ⟨by rw [he, HV.out], s0.trans mm, mm.cellAt s1, mm.cellAt s2, mm.cellAt s3, mm.cellAt s4⟩
    try simp only [Act.put, List.getElem_toArray, List.getElem_cons_succ, List.getElem_cons_zero, List.setIfInBounds_toArray, List.set_cons_zero, List.set_cons_succ]
    first | (refine Wk.skip (m := 11) (k := 2) rfl (by rfl) ?_) | (refine Wk.step (m := 11) (k := 2) (v := _) rfl (by rfl) (fun wv hS => by obtain ⟨s0, s1, s2, s3, s4⟩ := hS; go_simp; try with_reducible rfl) ?_)
    try simp only [Act.put, List.getElem_toArray, List.getElem_cons_succ, List.getElem_cons_zero, List.setIfInBounds_toArray, List.set_cons_zero, List.set_cons_succ]
    first | (refine Wk.skip (m := 10) (k := 3) rfl (by rfl) ?_) | (refine Wk.step (m := 10) (k := 3) (v := _) rfl (by rfl) (fun wv hS => by obtain ⟨s0, s1, s2, s3, s4⟩ := hS; go_simp; try with_reducible rfl) ?_)
    try simp only [Act.put, List.getElem_toArray, List.getElem_cons_succ, List.getElem_cons_zero, List.setIfInBounds_toArray, List.set_cons_zero, List.set_cons_succ]
    refine Wk.skip (m := 9) (k := 4) rfl (by rfl) ?_
    try simp only [Act.put, List.getElem_toArray, List.getElem_cons_succ, List.getElem_cons_zero, List.setIfInBounds_toArray, List.set_cons_zero, List.set_cons_succ]
    first | (refine Wk.skip (m := 8) (k := 5) rfl (by rfl) ?_) | (refine Wk.step (m := 8) (k := 5) (v := _) rfl (by rfl) (fun wv hS => by obtain ⟨s0, s1, s2, s3, s4⟩ := hS; go_simp; try with_reducible rfl) ?_)
    try simp only [Act.put, List.getElem_toArray, List.getElem_cons_succ, List.getElem_cons_zero, List.setIfInBounds_toArray, List.set_cons_zero, List.set_cons_succ]
    first | (refine Wk.skip (m := 7) (k := 6) rfl (by rfl) ?_) | (refine Wk.step (m := 7) (k := 6) (v := _) rfl (by rfl) (fun wv hS => by obtain ⟨s0, s1, s2, s3, s4⟩ := hS; go_simp; try with_reducible rfl) ?_)
    try simp only [Act.put, List.getElem_toArray, List.getElem_cons_succ, List.getElem_cons_zero, List.setIfInBounds_toArray, List.set_cons_zero, List.set_cons_succ]
    first | (refine Wk.skip (m := 6) (k := 7) rfl (by rfl) ?_) | (refine Wk.step (m := 6) (k := 7) (v := _) rfl (by rfl) (fun wv hS => by obtain ⟨s0, s1, s2, s3, s4⟩ := hS; go_simp; try with_reducible rfl) ?_)
    try simp only [Act.put, List.getElem_toArray, List.getElem_cons_succ, List.getElem_cons_zero, List.setIfInBounds_toArray, List.set_cons_zero, List.set_cons_succ]
    first | (refine Wk.skip (m := 5) (k := 8) rfl (by rfl) ?_) | (refine Wk.step (m := 5) (k := 8) (v := _) rfl (by rfl) (fun wv hS => by obtain ⟨s0, s1, s2, s3, s4⟩ := hS; go_simp; try with_reducible rfl) ?_)
    try simp only [Act.put, List.getElem_toArray, List.getElem_cons_succ, List.getElem_cons_zero, List.setIfInBounds_toArray, List.set_cons_zero, List.set_cons_succ]
    first | (refine Wk.skip (m := 4) (k := 9) rfl (by rfl) ?_) | (refine Wk.step (m := 4) (k := 9) (v := _) rfl (by rfl) (fun wv hS => by obtain ⟨s0, s1, s2, s3, s4⟩ := hS; go_simp; try with_reducible rfl) ?_)
    try simp only [Act.put, List.getElem_toArray, List.getElem_cons_succ, List.getElem_cons_zero, List.setIfInBounds_toArray, List.set_cons_zero, List.set_cons_succ]
    first | (refine Wk.skip (m := 3) (k := 10) rfl (by rfl) ?_) | (refine Wk.step (m := 3) (k := 10) (v := _) rfl (by rfl) (fun wv hS => by obtain ⟨s0, s1, s2, s3, s4⟩ := hS; go_simp; try with_reducible rfl) ?_)
    try simp only [Act.put, List.getElem_toArray, List.getElem_cons_succ, List.getElem_cons_zero, List.setIfInBounds_toArray, List.set_cons_zero, List.set_cons_succ]
    refine Wk.skip (m := 2) (k := 11) rfl (by rfl) ?_
    try simp only [Act.put, List.getElem_toArray, List.getElem_cons_succ, List.getElem_cons_zero, List.setIfInBounds_toArray, List.set_cons_zero, List.set_cons_succ]
    first | (refine Wk.skip (m := 1) (k := 12) rfl (by rfl) ?_) | (refine Wk.step (m := 1) (k := 12) (v := _) rfl (by rfl) (fun wv hS => by obtain ⟨s0, s1, s2, s3, s4⟩ := hS; go_simp; try with_reducible rfl) ?_)
    try simp only [Act.put, List.getElem_toArray, List.getElem_cons_succ, List.getElem_cons_zero, List.setIfInBounds_toArray, List.set_cons_zero, List.set_cons_succ]
    first | (refine Wk.skip (m := 0) (k := 13) rfl (by rfl) ?_) | (refine Wk.step (m := 0) (k := 13) (v := _) rfl (by rfl) (fun wv hS => by obtain ⟨s0, s1, s2, s3, s4⟩ := hS; go_simp; try with_reducible rfl) ?_)
    try simp only [Act.put, List.getElem_toArray, List.getElem_cons_succ, List.getElem_cons_zero, List.setIfInBounds_toArray, List.set_cons_zero, List.set_cons_succ]
    refine Wk.done fun wE hE => ?_
    obtain ⟨mE, k0, j0, j1, j2⟩ := hE
    go_wp2_with fail
    go_ret
    exact ⟨retB HR.out.symm, M0.trans mE⟩
  · have HV := Lib.hid hv
    go_enter Try.func75, Try.ntmps75
    go_wp2_with fail
    go_region_held3 (fun w' => Mk0 ((w.alloc (Obj.cells #[Value.slice a n c] 29)).alloc (Obj.cells #[Value.int .i64 x.nd, Value.int .i64 x.ifc, Value.int .i64 x.til] 128)) w' ∧ w'.cell? ⟨w.heap.size, 0, none⟩ = some (.slice a n c) ∧ w'.cell? ⟨w.heap.size + 1, 0, none⟩ = some (.int .i64 x.nd) ∧ w'.cell? ⟨w.heap.size + 1, 1, none⟩ = some (.int .i64 x.ifc) ∧ w'.cell? ⟨w.heap.size + 1, 2, none⟩ = some (.int .i64 x.til)) (first | exact ⟨Mk.drew1 _, k0, j0, j1, j2⟩ | (obtain ⟨s0, s1, s2, s3, s4⟩ := ‹Mk0 ((w.alloc (Obj.cells #[Value.slice a n c] 29)).alloc (Obj.cells #[Value.int .i64 x.nd, Value.int .i64 x.ifc, Value.int .i64 x.til] 128)) _ ∧ _›; exact ⟨s0.trans mm, mm.cellAt s1, mm.cellAt s2, mm.cellAt s3, mm.cellAt s4⟩)) (first | (go_at_call 86; refine (specVRev x.nd x.ifc x.til _).mono ?_; rintro e w2 ⟨he, mm⟩; rw [HV.out] at he; subst he) | (go_at_call 45; refine (specUsed a n c B ps _ (h.mk (M0.trans (‹Mk0 ((w.alloc (Obj.cells #[Value.slice a n c] 29)).alloc (Obj.cells #[Value.int .i64 x.nd, Value.int .i64 x.ifc, Value.int .i64 x.til] 128)) _ ∧ _›).1) hB (.inr (Nat.le_refl _))) (Nat.le_trans hB (M0.trans (‹Mk0 ((w.alloc (Obj.cells #[Value.slice a n c] 29)).alloc (Obj.cells #[Value.int .i64 x.nd, Value.int .i64 x.ifc, Value.int .i64 x.til] 128)) _ ∧ _›).1).size) hn).mono ?_; rintro e w3 hq3; obtain ⟨A, N, cc, rfl, hcc, oo, bb⟩ := hq3.r; have mm := Mk.of_below bb) | (go_at_call 46; refine (specHas9 (IntKind.i64.wrap (IntKind.i64.wrap (8 * x.nd) + x.ifc)) A N cc _ (usedAll ps n) _ oo.has (by have h1 := usedAll_len ps n; have h2 := oo.1; omega)).mono ?_; rintro e w5 ⟨rfl, rfl⟩; have mm := Mk.refl 0 0 w3))
    have m6 := (‹Mk0 ((w.alloc (Obj.cells #[Value.slice a n c] 29)).alloc (Obj.cells #[Value.int .i64 x.nd, Value.int .i64 x.ifc, Value.int .i64 x.til] 128)) _ ∧ _›).1
    refine ‹∀ (a : Act) (w : World), _ → _› _ _ ?_
    have HR := Lib.hid (show affB ps n x = inUp (fun j => (usedAll ps n).getD j 0) (IntKind.i64.wrap (IntKind.i64.wrap (8 * x.nd) + x.ifc)) N by unfold affB; rw [hv, oo.1, show ifN x.nd x.ifc = IntKind.i64.wrap (IntKind.i64.wrap (8 * x.nd) + x.ifc) from by unfold ifN; rw [IntWalk.i64_left, IntWalk.i64_left]]; rfl)
    clear hv
    go_wp2_with fail
    go_ret
    exact ⟨retB HR.out.symm, M0.trans m6⟩

set_option maxRecDepth 100000 in
set_option maxHeartbeats 4000000 in
theorem implAff (x : TRevocation) (a : Option Addr) (n c B : Nat) (ps : List TPathPart) (w : World) (h : HasPathPart w B a n ps) (hB : B ≤ w.heap.size) (hn : szPathPart ps n ≤ 1048576) :
    Calls Try.prog 80 #[.agg #[.slice a n c], .agg #[.int .i64 x.nd, .int .i64 x.ifc, .int .i64 x.til]] w fun e w' => e = .returned (.bool (affB ps n x)) ∧ Mk0 w w' := by
  have M0 := (Mk.alloc w (Obj.cells #[Value.slice a n c] 29)).new (Obj.cells #[Value.int .i64 x.nd, Value.int .i64 x.ifc, Value.int .i64 x.til] 128)
  have k0 : ((w.alloc (Obj.cells #[Value.slice a n c] 29)).alloc (Obj.cells #[Value.int .i64 x.nd, Value.int .i64 x.ifc, Value.int .i64 x.til] 128)).cell? ⟨w.heap.size, 0, none⟩ = some (.slice a n c) := by simp [go_sem]
  have j0 : ((w.alloc (Obj.cells #[Value.slice a n c] 29)).alloc (Obj.cells #[Value.int .i64 x.nd, Value.int .i64 x.ifc, Value.int .i64 x.til] 128)).cell? ⟨w.heap.size + 1, 0, none⟩ = some (.int .i64 x.nd) := by simp [go_sem]
  have j1 : ((w.alloc (Obj.cells #[Value.slice a n c] 29)).alloc (Obj.cells #[Value.int .i64 x.nd, Value.int .i64 x.ifc, Value.int .i64 x.til] 128)).cell? ⟨w.heap.size + 1, 1, none⟩ = some (.int .i64 x.ifc) := by simp [go_sem]
  have j2 : ((w.alloc (Obj.cells #[Value.slice a n c] 29)).alloc (Obj.cells #[Value.int .i64 x.nd, Value.int .i64 x.ifc, Value.int .i64 x.til] 128)).cell? ⟨w.heap.size + 1, 2, none⟩ = some (.int .i64 x.til) := by simp [go_sem]
  cases hv : revOk x.nd x.ifc x.til
  · have HR := Lib.hid (show affB ps n x = false by unfold affB; rw [hv]; rfl)
    have HV := Lib.hid hv
    clear hv
    go_enter Try.func80, Try.ntmps80
    go_wp2_with fail
    refine wp_region_wk (fun w' => Mk0 ((w.alloc (Obj.cells #[Value.slice a n c] 29)).alloc (Obj.cells #[Value.int .i64 x.nd, Value.int .i64 x.ifc, Value.int .i64 x.til] 128)) w' ∧ w'.cell? ⟨w.heap.size, 0, none⟩ = some (.slice a n c) ∧ w'.cell? ⟨w.heap.size + 1, 0, none⟩ = some (.int .i64 x.nd) ∧ w'.cell? ⟨w.heap.size + 1, 1, none⟩ = some (.int .i64 x.ifc) ∧ w'.cell? ⟨w.heap.size + 1, 2, none⟩ = some (.int .i64 x.til)) (by kernel_rfl) (by kernel_rfl) (⟨Mk.drew1 _, k0, j0, j1, j2⟩) ?_
    change Wk _ _ _ _ 13 0 _
    first | (refine Wk.skip (m := 12) (k := 0) rfl (by rfl) ?_) | (refine Wk.step (m := 12) (k := 0) (v := _) rfl (by rfl) (fun wv hS => by obtain ⟨s0, s1, s2, s3, s4⟩ := hS; go_simp; try with_reducible rfl) ?_)
    try simp only [Act.put, List.getElem_toArray, List.getElem_cons_zero, List.setIfInBounds_toArray, List.set_cons_zero, List.set_cons_succ]
    refine Wk.call (m := 11) (k := 1) (v := .bool false) _ _ rfl (by rfl) (fun wv hS => by obtain ⟨s0, s1, s2, s3, s4⟩ := hS; go_simp; first | done | exact ⟨rfl, rfl⟩ | with_reducible rfl) (fun wv hS => ?_) ?_; · obtain ⟨s0, s1, s2, s3, s4⟩ := hS; refine (implVRev x.nd x.ifc x.til wv).mono ?_; rintro e w' ⟨he, mm⟩; exact ⟨by rw [he, HV.out], s0.trans mm, mm.cellAt s1, mm.cellAt s2, mm.cellAt s3, mm.cellAt s4⟩
    try simp only [Act.put, List.getElem_toArray, List.getElem_cons_succ, List.getElem_cons_zero, List.setIfInBounds_toArray, List.set_cons_zero, List.set_cons_succ]
    first | (refine Wk.skip (m := 10) (k := 2) rfl (by rfl) ?_) | (refine Wk.step (m := 10) (k := 2) (v := _) rfl (by rfl) (fun wv hS => by obtain ⟨s0, s1, s2, s3, s4⟩ := hS; go_simp; try with_reducible rfl) ?_)
    try simp only [Act.put, List.getElem_toArray, List.getElem_cons_succ, List.getElem_cons_zero, List.setIfInBounds_toArray, List.set_cons_zero, List.set_cons_succ]
    first | (refine Wk.skip (m := 9) (k := 3) rfl (by rfl) ?_) | (refine Wk.step (m := 9) (k := 3) (v := _) rfl (by rfl) (fun wv hS => by obtain ⟨s0, s1, s2, s3, s4⟩ := hS; go_simp; try with_reducible rfl) ?_)
    try simp only [Act.put, List.getElem_toArray, List.getElem_cons_succ, List.getElem_cons_zero, List.setIfInBounds_toArray, List.set_cons_zero, List.set_cons_succ]
    refine Wk.skip (m := 8) (k := 4) rfl (by rfl) ?_
    try simp only [Act.put, List.getElem_toArray, List.getElem_cons_succ, List.getElem_cons_zero, List.setIfInBounds_toArray, List.set_cons_zero, List.set_cons_succ]
    first | (refine Wk.skip (m := 7) (k := 5) rfl (by rfl) ?_) | (refine Wk.step (m := 7) (k := 5) (v := _) rfl (by rfl) (fun wv hS => by obtain ⟨s0, s1, s2, s3, s4⟩ := hS; go_simp; try with_reducible rfl) ?_)
    try simp only [Act.put, List.getElem_toArray, List.getElem_cons_succ, List.getElem_cons_zero, List.setIfInBounds_toArray, List.set_cons_zero, List.set_cons_succ]
    first | (refine Wk.skip (m := 6) (k := 6) rfl (by rfl) ?_) | (refine Wk.step (m := 6) (k := 6) (v := _) rfl (by rfl) (fun wv hS => by obtain ⟨s0, s1, s2, s3, s4⟩ := hS; go_simp; try with_reducible rfl) ?_)
    try simp only [Act.put, List.getElem_toArray, List.getElem_cons_succ, List.getElem_cons_zero, List.setIfInBounds_toArray, List.set_cons_zero, List.set_cons_succ]
    first | (refine Wk.skip (m := 5) (k := 7) rfl (by rfl) ?_) | (refine Wk.step (m := 5) (k := 7) (v := _) rfl (by rfl) (fun wv hS => by obtain ⟨s0, s1, s2, s3, s4⟩ := hS; go_simp; try with_reducible rfl) ?_)
    try simp only [Act.put, List.getElem_toArray, List.getElem_cons_succ, List.getElem_cons_zero, List.setIfInBounds_toArray, List.set_cons_zero, List.set_cons_succ]
    first | (refine Wk.skip (m := 4) (k := 8) rfl (by rfl) ?_) | (refine Wk.step (m := 4) (k := 8) (v := _) rfl (by rfl) (fun wv hS => by obtain ⟨s0, s1, s2, s3, s4⟩ := hS; go_simp; try with_reducible rfl) ?_)
    try simp only [Act.put, List.getElem_toArray, List.getElem_cons_succ, List.getElem_cons_zero, List.setIfInBounds_toArray, List.set_cons_zero, List.set_cons_succ]
    refine Wk.skip (m := 3) (k := 9) rfl (by rfl) ?_
    try simp only [Act.put, List.getElem_toArray, List.getElem_cons_succ, List.getElem_cons_zero, List.setIfInBounds_toArray, List.set_cons_zero, List.set_cons_succ]
    refine Wk.skip (m := 2) (k := 10) rfl (by rfl) ?_
    try simp only [Act.put, List.getElem_toArray, List.getElem_cons_succ, List.getElem_cons_zero, List.setIfInBounds_toArray, List.set_cons_zero, List.set_cons_succ]
    first | (refine Wk.skip (m := 1) (k := 11) rfl (by rfl) ?_) | (refine Wk.step (m := 1) (k := 11) (v := _) rfl (by rfl) (fun wv hS => by obtain ⟨s0, s1, s2, s3, s4⟩ := hS; go_simp; try with_reducible rfl) ?_)
    try simp only [Act.put, List.getElem_toArray, List.getElem_cons_succ, List.getElem_cons_zero, List.setIfInBounds_toArray, List.set_cons_zero, List.set_cons_succ]
    first | (refine Wk.skip (m := 0) (k := 12) rfl (by rfl) ?_) | (refine Wk.step (m := 0) (k := 12) (v := _) rfl (by rfl) (fun wv hS => by obtain ⟨s0, s1, s2, s3, s4⟩ := hS; go_simp; try with_reducible rfl) ?_)
    try simp only [Act.put, List.getElem_toArray, List.getElem_cons_succ, List.getElem_cons_zero, List.setIfInBounds_toArray, List.set_cons_zero, List.set_cons_succ]
    refine Wk.done fun wE hE => ?_
    obtain ⟨mE, k0, j0, j1, j2⟩ := hE
    go_wp2_with fail
    go_ret
    exact ⟨retB HR.out.symm, M0.trans mE⟩
  · have HV := Lib.hid hv
    go_enter Try.func80, Try.ntmps80
    go_wp2_with fail
    go_region_held3 (fun w' => Mk0 ((w.alloc (Obj.cells #[Value.slice a n c] 29)).alloc (Obj.cells #[Value.int .i64 x.nd, Value.int .i64 x.ifc, Value.int .i64 x.til] 128)) w' ∧ w'.cell? ⟨w.heap.size, 0, none⟩ = some (.slice a n c) ∧ w'.cell? ⟨w.heap.size + 1, 0, none⟩ = some (.int .i64 x.nd) ∧ w'.cell? ⟨w.heap.size + 1, 1, none⟩ = some (.int .i64 x.ifc) ∧ w'.cell? ⟨w.heap.size + 1, 2, none⟩ = some (.int .i64 x.til)) (first | exact ⟨Mk.drew1 _, k0, j0, j1, j2⟩ | (obtain ⟨s0, s1, s2, s3, s4⟩ := ‹Mk0 ((w.alloc (Obj.cells #[Value.slice a n c] 29)).alloc (Obj.cells #[Value.int .i64 x.nd, Value.int .i64 x.ifc, Value.int .i64 x.til] 128)) _ ∧ _›; exact ⟨s0.trans mm, mm.cellAt s1, mm.cellAt s2, mm.cellAt s3, mm.cellAt s4⟩)) (first | (go_at_call 94; refine (implVRev x.nd x.ifc x.til _).mono ?_; rintro e w2 ⟨he, mm⟩; rw [HV.out] at he; subst he) | (go_at_call 49; refine (implUsed a n c B ps _ (h.mk (M0.trans (‹Mk0 ((w.alloc (Obj.cells #[Value.slice a n c] 29)).alloc (Obj.cells #[Value.int .i64 x.nd, Value.int .i64 x.ifc, Value.int .i64 x.til] 128)) _ ∧ _›).1) hB (.inr (Nat.le_refl _))) (Nat.le_trans hB (M0.trans (‹Mk0 ((w.alloc (Obj.cells #[Value.slice a n c] 29)).alloc (Obj.cells #[Value.int .i64 x.nd, Value.int .i64 x.ifc, Value.int .i64 x.til] 128)) _ ∧ _›).1).size) hn).mono ?_; rintro e w3 hq3; obtain ⟨A, N, cc, rfl, hcc, oo, bb⟩ := hq3.r; have mm := Mk.of_below bb) | (go_at_call 123; refine (implIfN _ _ _).mono ?_; rintro e w4 ⟨rfl, rfl⟩; have mm := Mk.refl 0 0 w3) | (go_at_call 59; refine (contI (ifN x.nd x.ifc) A N cc _ (usedAll ps n) _ oo.has (by have h1 := usedAll_len ps n; have h2 := oo.1; omega)).mono ?_; rintro e w5 ⟨rfl, rfl⟩; have mm := Mk.refl 0 0 w3))
    have m6 := (‹Mk0 ((w.alloc (Obj.cells #[Value.slice a n c] 29)).alloc (Obj.cells #[Value.int .i64 x.nd, Value.int .i64 x.ifc, Value.int .i64 x.til] 128)) _ ∧ _›).1
    refine ‹∀ (a : Act) (w : World), _ → _› _ _ ?_
    have HR := Lib.hid (show affB ps n x = inUp (nthI (usedAll ps n)) (ifN x.nd x.ifc) N by unfold affB; rw [hv, oo.1]; rfl)
    clear hv
    go_wp2_with fail
    go_ret
    exact ⟨retB HR.out.symm, M0.trans m6⟩

end Go.Proofs.Ytkmofhpipcodbaa
