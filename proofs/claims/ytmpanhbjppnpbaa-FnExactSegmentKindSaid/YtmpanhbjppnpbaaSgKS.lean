
/- SegmentKind of the model. -/
import Derived.Test.YtmpanhbjppnpbaaSgKI
namespace Go.Proofs.Ytmpanhbjppnpbaa
open Go.ChangeShapes Go.WideShapes Go.ChangeAt Go.RowKit
set_option linter.unusedVariables false
def kdUp (zl : List TLink) (n1 : Nat) (zs : List THop) (k : Nat) : Option Int := (egUp zl n1 zs k).foldl stK (some 0)
theorem kdUp_skip {zl : List TLink} {n1 : Nat} {zs : List THop} {k : Nat} (h : (zs.getD k default).eg = 0) : kdUp zl n1 zs (k + 1) = kdUp zl n1 zs k := by
  unfold kdUp
  rw [egUp]
  unfold egK
  rw [if_pos h, List.append_nil]
theorem kdUp_step {zl : List TLink} {n1 : Nat} {zs : List THop} {k : Nat} (h : (zs.getD k default).eg ≠ 0) : kdUp zl n1 zs (k + 1) = stK (kdUp zl n1 zs k) (kindOf zl (zs.getD k default).nd (zs.getD k default).eg n1) := by
  unfold kdUp
  rw [egUp]
  unfold egK
  rw [if_neg h, List.foldl_append]
  rfl
theorem kdUp_none {zl : List TLink} {n1 : Nat} {zs : List THop} {k : Nat} (h : kdUp zl n1 zs k = none) : ∀ n, k ≤ n → kdUp zl n1 zs n = none
  | 0, hn => by obtain rfl : k = 0 := by omega
                exact h
  | n + 1, hn => by
    by_cases e : k = n + 1
    · subst e; exact h
    · have := kdUp_none h n (by omega)
      by_cases h0 : (zs.getD n default).eg = 0
      · rw [kdUp_skip h0, this]
      · rw [kdUp_step h0, this]; rfl
theorem sgKd_wf {n0 : Nat} {zA : List TAS} {zl : List TLink} {n1 : Nat} {zs : List THop} {n : Nat} (hw : wfB n0 zl n1 zs n = true) (hc : coreB zA n0 (segFirst zs n) = true) : sgKd n0 zA zl n1 zs n = resS (kdUp zl n1 zs n) := by
  unfold sgKd kdUp
  rw [hw, hc, if_pos (by rfl), kd_same]
set_option maxRecDepth 100000 in
set_option maxHeartbeats 4000000 in
theorem specSgKind (a0 a1 : Option Addr) (n0 c0 n1 c1 B : Nat) (zA : List TAS) (zl : List TLink) (x0 x1 : Int) (a : Option Addr) (n c B' : Nat) (zs : List THop) (w : World) (hA : HasAS w B a0 n0 zA) (hl : HasLink w B a1 n1 zl) (hB : B ≤ w.heap.size) (hn0 : n0 ≤ 1048576) (hn1 : n1 ≤ 1048576) (h : HasHop w B' a n zs) (hB' : B' ≤ w.heap.size) (hn : n ≤ 1048576) :
    Calls Try.prog 10 #[.agg #[.slice a0 n0 c0, .slice a1 n1 c1], .agg #[.int .i64 x0, .int .i64 x1, .slice a n c]] w fun e w' => e = .returned (.int .i64 (sgKd n0 zA zl n1 zs n)) ∧ Mk0 w w' := by
  have M0 := (Mk.alloc w (Obj.cells #[Value.slice a0 n0 c0, Value.slice a1 n1 c1] 35)).new (Obj.cells #[Value.int .i64 x0, Value.int .i64 x1, Value.slice a n c] 39)
  have k0 : ((w.alloc (Obj.cells #[Value.slice a0 n0 c0, Value.slice a1 n1 c1] 35)).alloc (Obj.cells #[Value.int .i64 x0, Value.int .i64 x1, Value.slice a n c] 39)).cell? ⟨w.heap.size, 0, none⟩ = some (.slice a0 n0 c0) := by simp [go_sem]
  have k1 : ((w.alloc (Obj.cells #[Value.slice a0 n0 c0, Value.slice a1 n1 c1] 35)).alloc (Obj.cells #[Value.int .i64 x0, Value.int .i64 x1, Value.slice a n c] 39)).cell? ⟨w.heap.size, 1, none⟩ = some (.slice a1 n1 c1) := by simp [go_sem]
  have j0 : ((w.alloc (Obj.cells #[Value.slice a0 n0 c0, Value.slice a1 n1 c1] 35)).alloc (Obj.cells #[Value.int .i64 x0, Value.int .i64 x1, Value.slice a n c] 39)).cell? ⟨w.heap.size + 1, 0, none⟩ = some (.int .i64 x0) := by simp [go_sem]
  have j1 : ((w.alloc (Obj.cells #[Value.slice a0 n0 c0, Value.slice a1 n1 c1] 35)).alloc (Obj.cells #[Value.int .i64 x0, Value.int .i64 x1, Value.slice a n c] 39)).cell? ⟨w.heap.size + 1, 1, none⟩ = some (.int .i64 x1) := by simp [go_sem]
  have j2 : ((w.alloc (Obj.cells #[Value.slice a0 n0 c0, Value.slice a1 n1 c1] 35)).alloc (Obj.cells #[Value.int .i64 x0, Value.int .i64 x1, Value.slice a n c] 39)).cell? ⟨w.heap.size + 1, 2, none⟩ = some (.slice a n c) := by simp [go_sem]
  cases hw : wfB n0 zl n1 zs n
  · have HR := Lib.hid (show sgKd n0 zA zl n1 zs n = 0 by unfold sgKd; rw [hw]; rfl)
    have HW := Lib.hid hw
    clear hw
    go_enter Try.func10, Try.ntmps10
    go_wp2_with fail
    refine wp_region_wk (fun w' => Mk0 ((w.alloc (Obj.cells #[Value.slice a0 n0 c0, Value.slice a1 n1 c1] 35)).alloc (Obj.cells #[Value.int .i64 x0, Value.int .i64 x1, Value.slice a n c] 39)) w' ∧ w'.cell? ⟨w.heap.size, 0, none⟩ = some (.slice a0 n0 c0) ∧ w'.cell? ⟨w.heap.size, 1, none⟩ = some (.slice a1 n1 c1) ∧ w'.cell? ⟨w.heap.size + 1, 0, none⟩ = some (.int .i64 x0) ∧ w'.cell? ⟨w.heap.size + 1, 1, none⟩ = some (.int .i64 x1) ∧ w'.cell? ⟨w.heap.size + 1, 2, none⟩ = some (.slice a n c)) (by kernel_rfl) (by kernel_rfl) (⟨Mk.drew1 _, k0, k1, j0, j1, j2⟩) ?_
    change Wk _ _ _ _ 14 0 _
    first | (refine Wk.skip (m := 13) (k := 0) rfl (by rfl) ?_) | (refine Wk.step (m := 13) (k := 0) (v := _) rfl (by rfl) (fun wv hS => by obtain ⟨s0, s1, s2, s3, s4, s5⟩ := hS; go_simp; try with_reducible rfl) ?_)
    try simp only [Act.put, List.getElem_toArray, List.getElem_cons_zero, List.setIfInBounds_toArray, List.set_cons_zero, List.set_cons_succ]
    first | (refine Wk.skip (m := 12) (k := 1) rfl (by rfl) ?_) | (refine Wk.step (m := 12) (k := 1) (v := _) rfl (by rfl) (fun wv hS => by obtain ⟨s0, s1, s2, s3, s4, s5⟩ := hS; go_simp; try with_reducible rfl) ?_)
    try simp only [Act.put, List.getElem_toArray, List.getElem_cons_succ, List.getElem_cons_zero, List.setIfInBounds_toArray, List.set_cons_zero, List.set_cons_succ]
    refine Wk.call (m := 11) (k := 2) (v := .bool false) _ _ rfl (by rfl) (fun wv hS => by obtain ⟨s0, s1, s2, s3, s4, s5⟩ := hS; go_simp; first | done | exact ⟨rfl, rfl⟩ | with_reducible rfl) (fun wv hS => ?_) ?_; · obtain ⟨s0, s1, s2, s3, s4, s5⟩ := hS; refine (specWF a0 a1 n0 c0 n1 c1 B zl x0 x1 a n c B' zs wv (hl.mk (M0.trans s0) hB (.inr (Nat.le_refl _))) (Nat.le_trans hB (M0.trans s0).size) hn0 hn1 (h.mk (M0.trans s0) hB' (.inr (Nat.le_refl _))) (Nat.le_trans hB' (M0.trans s0).size) hn).mono ?_; rintro e w' ⟨he, mm⟩; exact ⟨by rw [he, HW.out], ⟨s0.trans mm, mm.cellAt s1, mm.cellAt s2, mm.cellAt s3, mm.cellAt s4, mm.cellAt s5⟩⟩
    try simp only [Act.put, List.getElem_toArray, List.getElem_cons_succ, List.getElem_cons_zero, List.setIfInBounds_toArray, List.set_cons_zero, List.set_cons_succ]
    first | (refine Wk.skip (m := 10) (k := 3) rfl (by rfl) ?_) | (refine Wk.step (m := 10) (k := 3) (v := _) rfl (by rfl) (fun wv hS => by obtain ⟨s0, s1, s2, s3, s4, s5⟩ := hS; go_simp; try with_reducible rfl) ?_)
    try simp only [Act.put, List.getElem_toArray, List.getElem_cons_succ, List.getElem_cons_zero, List.setIfInBounds_toArray, List.set_cons_zero, List.set_cons_succ]
    first | (refine Wk.skip (m := 9) (k := 4) rfl (by rfl) ?_) | (refine Wk.step (m := 9) (k := 4) (v := _) rfl (by rfl) (fun wv hS => by obtain ⟨s0, s1, s2, s3, s4, s5⟩ := hS; go_simp; try with_reducible rfl) ?_)
    try simp only [Act.put, List.getElem_toArray, List.getElem_cons_succ, List.getElem_cons_zero, List.setIfInBounds_toArray, List.set_cons_zero, List.set_cons_succ]
    first | (refine Wk.skip (m := 8) (k := 5) rfl (by rfl) ?_) | (refine Wk.step (m := 8) (k := 5) (v := _) rfl (by rfl) (fun wv hS => by obtain ⟨s0, s1, s2, s3, s4, s5⟩ := hS; go_simp; try with_reducible rfl) ?_)
    try simp only [Act.put, List.getElem_toArray, List.getElem_cons_succ, List.getElem_cons_zero, List.setIfInBounds_toArray, List.set_cons_zero, List.set_cons_succ]
    first | (refine Wk.skip (m := 7) (k := 6) rfl (by rfl) ?_) | (refine Wk.step (m := 7) (k := 6) (v := _) rfl (by rfl) (fun wv hS => by obtain ⟨s0, s1, s2, s3, s4, s5⟩ := hS; go_simp; try with_reducible rfl) ?_)
    try simp only [Act.put, List.getElem_toArray, List.getElem_cons_succ, List.getElem_cons_zero, List.setIfInBounds_toArray, List.set_cons_zero, List.set_cons_succ]
    first | (refine Wk.skip (m := 6) (k := 7) rfl (by rfl) ?_) | (refine Wk.step (m := 6) (k := 7) (v := _) rfl (by rfl) (fun wv hS => by obtain ⟨s0, s1, s2, s3, s4, s5⟩ := hS; go_simp; try with_reducible rfl) ?_)
    try simp only [Act.put, List.getElem_toArray, List.getElem_cons_succ, List.getElem_cons_zero, List.setIfInBounds_toArray, List.set_cons_zero, List.set_cons_succ]
    refine Wk.skip (m := 5) (k := 8) rfl (by rfl) ?_
    try simp only [Act.put, List.getElem_toArray, List.getElem_cons_succ, List.getElem_cons_zero, List.setIfInBounds_toArray, List.set_cons_zero, List.set_cons_succ]
    first | (refine Wk.skip (m := 4) (k := 9) rfl (by rfl) ?_) | (refine Wk.step (m := 4) (k := 9) (v := _) rfl (by rfl) (fun wv hS => by obtain ⟨s0, s1, s2, s3, s4, s5⟩ := hS; go_simp; try with_reducible rfl) ?_)
    try simp only [Act.put, List.getElem_toArray, List.getElem_cons_succ, List.getElem_cons_zero, List.setIfInBounds_toArray, List.set_cons_zero, List.set_cons_succ]
    first | (refine Wk.skip (m := 3) (k := 10) rfl (by rfl) ?_) | (refine Wk.step (m := 3) (k := 10) (v := _) rfl (by rfl) (fun wv hS => by obtain ⟨s0, s1, s2, s3, s4, s5⟩ := hS; go_simp; try with_reducible rfl) ?_)
    try simp only [Act.put, List.getElem_toArray, List.getElem_cons_succ, List.getElem_cons_zero, List.setIfInBounds_toArray, List.set_cons_zero, List.set_cons_succ]
    first | (refine Wk.skip (m := 2) (k := 11) rfl (by rfl) ?_) | (refine Wk.step (m := 2) (k := 11) (v := _) rfl (by rfl) (fun wv hS => by obtain ⟨s0, s1, s2, s3, s4, s5⟩ := hS; go_simp; try with_reducible rfl) ?_)
    try simp only [Act.put, List.getElem_toArray, List.getElem_cons_succ, List.getElem_cons_zero, List.setIfInBounds_toArray, List.set_cons_zero, List.set_cons_succ]
    first | (refine Wk.skip (m := 1) (k := 12) rfl (by rfl) ?_) | (refine Wk.step (m := 1) (k := 12) (v := _) rfl (by rfl) (fun wv hS => by obtain ⟨s0, s1, s2, s3, s4, s5⟩ := hS; go_simp; try with_reducible rfl) ?_)
    try simp only [Act.put, List.getElem_toArray, List.getElem_cons_succ, List.getElem_cons_zero, List.setIfInBounds_toArray, List.set_cons_zero, List.set_cons_succ]
    first | (refine Wk.skip (m := 0) (k := 13) rfl (by rfl) ?_) | (refine Wk.step (m := 0) (k := 13) (v := _) rfl (by rfl) (fun wv hS => by obtain ⟨s0, s1, s2, s3, s4, s5⟩ := hS; go_simp; try with_reducible rfl) ?_)
    try simp only [Act.put, List.getElem_toArray, List.getElem_cons_succ, List.getElem_cons_zero, List.setIfInBounds_toArray, List.set_cons_zero, List.set_cons_succ]
    refine Wk.done fun wE hE => ?_
    clear k0 k1 j0 j1 j2
    obtain ⟨mE, k0, k1, j0, j1, j2⟩ := hE
    go_wp2_with fail
    go_ret
    exact ⟨retI HR.out.symm, M0.trans mE⟩
  · have hnn := wfB_n hw
    have hq := of_decide_eq_true (show decide (0 ≤ segFirst zs n ∧ segFirst zs n < (n0 : Int)) = true from wfB_first hw)
    obtain ⟨q, hqr⟩ : ∃ q : Nat, Hid ((q : Int) = segFirst zs n) := ⟨(segFirst zs n).toNat, by show ((segFirst zs n).toNat : Int) = segFirst zs n; omega⟩
    have HV := Lib.hid hqr.out.symm
    have hqn : q < n0 := by have := hqr.out; omega
    obtain ⟨b, o, y, rfl, hb, hy, d0, d1, d2⟩ := HasAS.at _ _ _ _ _ _ (hA.mk M0 hB (.inr (Nat.le_refl _))) hqn
    have hcore : coreB zA n0 (segFirst zs n) = y.core := by unfold coreB; rw [wfB_first hw, HV.out, hy.out]; simp
    have i1 : (0 : Int) ≤ (q : Int) := by omega
    have i2 : (q : Int) < (n0 : Int) := by omega
    clear hq d0 d2
    cases hc : y.core
    · rw [hc] at d1
      have HW := Lib.hid hw
      have HR := Lib.hid (show sgKd n0 zA zl n1 zs n = 0 by unfold sgKd; rw [hw, hcore, hc]; rfl)
      clear hw hcore hc hy hqr
      go_enter Try.func10, Try.ntmps10
      go_wp2_with fail
      refine wp_region_wk (fun w' => Mk0 ((w.alloc (Obj.cells #[Value.slice (some ⟨b, o, none⟩) n0 c0, Value.slice a1 n1 c1] 35)).alloc (Obj.cells #[Value.int .i64 x0, Value.int .i64 x1, Value.slice a n c] 39)) w' ∧ w'.cell? ⟨w.heap.size, 0, none⟩ = some (.slice (some ⟨b, o, none⟩) n0 c0) ∧ w'.cell? ⟨w.heap.size, 1, none⟩ = some (.slice a1 n1 c1) ∧ w'.cell? ⟨w.heap.size + 1, 0, none⟩ = some (.int .i64 x0) ∧ w'.cell? ⟨w.heap.size + 1, 1, none⟩ = some (.int .i64 x1) ∧ w'.cell? ⟨w.heap.size + 1, 2, none⟩ = some (.slice a n c) ∧ w'.cell? ⟨b, o + q * 3 + 1, none⟩ = some (.bool false)) (by kernel_rfl) (by kernel_rfl) (⟨Mk.drew1 _, k0, k1, j0, j1, j2, d1⟩) ?_
      change Wk _ _ _ _ 14 0 _
      first | (refine Wk.skip (m := 13) (k := 0) rfl (by rfl) ?_) | (refine Wk.step (m := 13) (k := 0) (v := _) rfl (by rfl) (fun wv hS => by obtain ⟨s0, s1, s2, s3, s4, s5, s6⟩ := hS; go_simp; try with_reducible rfl) ?_)
      try simp only [Act.put, List.getElem_toArray, List.getElem_cons_zero, List.setIfInBounds_toArray, List.set_cons_zero, List.set_cons_succ]
      first | (refine Wk.skip (m := 12) (k := 1) rfl (by rfl) ?_) | (refine Wk.step (m := 12) (k := 1) (v := _) rfl (by rfl) (fun wv hS => by obtain ⟨s0, s1, s2, s3, s4, s5, s6⟩ := hS; go_simp; try with_reducible rfl) ?_)
      try simp only [Act.put, List.getElem_toArray, List.getElem_cons_succ, List.getElem_cons_zero, List.setIfInBounds_toArray, List.set_cons_zero, List.set_cons_succ]
      refine Wk.call (m := 11) (k := 2) (v := .bool true) _ _ rfl (by rfl) (fun wv hS => by obtain ⟨s0, s1, s2, s3, s4, s5, s6⟩ := hS; go_simp; first | done | exact ⟨rfl, rfl⟩ | with_reducible rfl) (fun wv hS => ?_) ?_; · obtain ⟨s0, s1, s2, s3, s4, s5, s6⟩ := hS; refine (specWF (some ⟨b, o, none⟩) a1 n0 c0 n1 c1 B zl x0 x1 a n c B' zs wv (hl.mk (M0.trans s0) hB (.inr (Nat.le_refl _))) (Nat.le_trans hB (M0.trans s0).size) hn0 hn1 (h.mk (M0.trans s0) hB' (.inr (Nat.le_refl _))) (Nat.le_trans hB' (M0.trans s0).size) hn).mono ?_; rintro e w' ⟨he, mm⟩; exact ⟨by rw [he, HW.out], ⟨s0.trans mm, mm.cellAt s1, mm.cellAt s2, mm.cellAt s3, mm.cellAt s4, mm.cellAt s5, mm.cellAt s6⟩⟩
      try simp only [Act.put, List.getElem_toArray, List.getElem_cons_succ, List.getElem_cons_zero, List.setIfInBounds_toArray, List.set_cons_zero, List.set_cons_succ]
      first | (refine Wk.skip (m := 10) (k := 3) rfl (by rfl) ?_) | (refine Wk.step (m := 10) (k := 3) (v := _) rfl (by rfl) (fun wv hS => by obtain ⟨s0, s1, s2, s3, s4, s5, s6⟩ := hS; go_simp; try with_reducible rfl) ?_)
      try simp only [Act.put, List.getElem_toArray, List.getElem_cons_succ, List.getElem_cons_zero, List.setIfInBounds_toArray, List.set_cons_zero, List.set_cons_succ]
      first | (refine Wk.skip (m := 9) (k := 4) rfl (by rfl) ?_) | (refine Wk.step (m := 9) (k := 4) (v := _) rfl (by rfl) (fun wv hS => by obtain ⟨s0, s1, s2, s3, s4, s5, s6⟩ := hS; go_simp; try with_reducible rfl) ?_)
      try simp only [Act.put, List.getElem_toArray, List.getElem_cons_succ, List.getElem_cons_zero, List.setIfInBounds_toArray, List.set_cons_zero, List.set_cons_succ]
      first | (refine Wk.skip (m := 8) (k := 5) rfl (by rfl) ?_) | (refine Wk.step (m := 8) (k := 5) (v := _) rfl (by rfl) (fun wv hS => by obtain ⟨s0, s1, s2, s3, s4, s5, s6⟩ := hS; go_simp; try with_reducible rfl) ?_)
      try simp only [Act.put, List.getElem_toArray, List.getElem_cons_succ, List.getElem_cons_zero, List.setIfInBounds_toArray, List.set_cons_zero, List.set_cons_succ]
      first | (refine Wk.skip (m := 7) (k := 6) rfl (by rfl) ?_) | (refine Wk.step (m := 7) (k := 6) (v := _) rfl (by rfl) (fun wv hS => by obtain ⟨s0, s1, s2, s3, s4, s5, s6⟩ := hS; go_simp; try with_reducible rfl) ?_)
      try simp only [Act.put, List.getElem_toArray, List.getElem_cons_succ, List.getElem_cons_zero, List.setIfInBounds_toArray, List.set_cons_zero, List.set_cons_succ]
      first | (refine Wk.skip (m := 6) (k := 7) rfl (by rfl) ?_) | (refine Wk.step (m := 6) (k := 7) (v := _) rfl (by rfl) (fun wv hS => by obtain ⟨s0, s1, s2, s3, s4, s5, s6⟩ := hS; go_simp; try with_reducible rfl) ?_)
      try simp only [Act.put, List.getElem_toArray, List.getElem_cons_succ, List.getElem_cons_zero, List.setIfInBounds_toArray, List.set_cons_zero, List.set_cons_succ]
      refine Wk.call (m := 5) (k := 8) (v := .int .i64 (q : Int)) _ _ rfl (by rfl) (fun wv hS => by obtain ⟨s0, s1, s2, s3, s4, s5, s6⟩ := hS; go_simp; first | done | exact ⟨rfl, rfl⟩ | with_reducible rfl) (fun wv hS => ?_) ?_; · obtain ⟨s0, s1, s2, s3, s4, s5, s6⟩ := hS; refine (specFirst x0 x1 a n c B' zs wv (h.mk (M0.trans s0) hB' (.inr (Nat.le_refl _))) (Nat.le_trans hB' (M0.trans s0).size) hn).mono ?_; rintro e w' ⟨he, mm⟩; exact ⟨by rw [he, HV.out], ⟨s0.trans mm, mm.cellAt s1, mm.cellAt s2, mm.cellAt s3, mm.cellAt s4, mm.cellAt s5, mm.cellAt s6⟩⟩
      try simp only [Act.put, List.getElem_toArray, List.getElem_cons_succ, List.getElem_cons_zero, List.setIfInBounds_toArray, List.set_cons_zero, List.set_cons_succ]
      first | (refine Wk.skip (m := 4) (k := 9) rfl (by rfl) ?_) | (refine Wk.step (m := 4) (k := 9) (v := _) rfl (by rfl) (fun wv hS => by obtain ⟨s0, s1, s2, s3, s4, s5, s6⟩ := hS; go_simp; try with_reducible rfl) ?_)
      try simp only [Act.put, List.getElem_toArray, List.getElem_cons_succ, List.getElem_cons_zero, List.setIfInBounds_toArray, List.set_cons_zero, List.set_cons_succ]
      first | (refine Wk.skip (m := 3) (k := 10) rfl (by rfl) ?_) | (refine Wk.step (m := 3) (k := 10) (v := _) rfl (by rfl) (fun wv hS => by obtain ⟨s0, s1, s2, s3, s4, s5, s6⟩ := hS; go_simp; try with_reducible rfl) ?_)
      try simp only [Act.put, List.getElem_toArray, List.getElem_cons_succ, List.getElem_cons_zero, List.setIfInBounds_toArray, List.set_cons_zero, List.set_cons_succ]
      first | (refine Wk.skip (m := 2) (k := 11) rfl (by rfl) ?_) | (refine Wk.step (m := 2) (k := 11) (v := _) rfl (by rfl) (fun wv hS => by obtain ⟨s0, s1, s2, s3, s4, s5, s6⟩ := hS; go_simp; try with_reducible rfl) ?_)
      try simp only [Act.put, List.getElem_toArray, List.getElem_cons_succ, List.getElem_cons_zero, List.setIfInBounds_toArray, List.set_cons_zero, List.set_cons_succ]
      first | (refine Wk.skip (m := 1) (k := 12) rfl (by rfl) ?_) | (refine Wk.step (m := 1) (k := 12) (v := _) rfl (by rfl) (fun wv hS => by obtain ⟨s0, s1, s2, s3, s4, s5, s6⟩ := hS; go_simp; try with_reducible rfl) ?_)
      try simp only [Act.put, List.getElem_toArray, List.getElem_cons_succ, List.getElem_cons_zero, List.setIfInBounds_toArray, List.set_cons_zero, List.set_cons_succ]
      first | (refine Wk.skip (m := 0) (k := 13) rfl (by rfl) ?_) | (refine Wk.step (m := 0) (k := 13) (v := _) rfl (by rfl) (fun wv hS => by obtain ⟨s0, s1, s2, s3, s4, s5, s6⟩ := hS; go_simp; try with_reducible rfl) ?_)
      try simp only [Act.put, List.getElem_toArray, List.getElem_cons_succ, List.getElem_cons_zero, List.setIfInBounds_toArray, List.set_cons_zero, List.set_cons_succ]
      refine Wk.done fun wE hE => ?_
      clear k0 k1 j0 j1 j2 d1
      obtain ⟨mE, k0, k1, j0, j1, j2, d1⟩ := hE
      go_wp2_with fail
      go_ret
      exact ⟨retI HR.out.symm, M0.trans mE⟩
    · rw [hc] at d1
      have HW := Lib.hid hw
      have HR := Lib.hid (sgKd_wf (zA := zA) hw (hcore.trans hc))
      clear hw hcore hc hy hqr
      go_enter Try.func10, Try.ntmps10
      go_wp2_with fail
      refine wp_region_wk (fun w' => Mk0 ((w.alloc (Obj.cells #[Value.slice (some ⟨b, o, none⟩) n0 c0, Value.slice a1 n1 c1] 35)).alloc (Obj.cells #[Value.int .i64 x0, Value.int .i64 x1, Value.slice a n c] 39)) w' ∧ w'.cell? ⟨w.heap.size, 0, none⟩ = some (.slice (some ⟨b, o, none⟩) n0 c0) ∧ w'.cell? ⟨w.heap.size, 1, none⟩ = some (.slice a1 n1 c1) ∧ w'.cell? ⟨w.heap.size + 1, 0, none⟩ = some (.int .i64 x0) ∧ w'.cell? ⟨w.heap.size + 1, 1, none⟩ = some (.int .i64 x1) ∧ w'.cell? ⟨w.heap.size + 1, 2, none⟩ = some (.slice a n c) ∧ w'.cell? ⟨b, o + q * 3 + 1, none⟩ = some (.bool true)) (by kernel_rfl) (by kernel_rfl) (⟨Mk.drew1 _, k0, k1, j0, j1, j2, d1⟩) ?_
      change Wk _ _ _ _ 14 0 _
      first | (refine Wk.skip (m := 13) (k := 0) rfl (by rfl) ?_) | (refine Wk.step (m := 13) (k := 0) (v := _) rfl (by rfl) (fun wv hS => by obtain ⟨s0, s1, s2, s3, s4, s5, s6⟩ := hS; go_simp; try with_reducible rfl) ?_)
      try simp only [Act.put, List.getElem_toArray, List.getElem_cons_zero, List.setIfInBounds_toArray, List.set_cons_zero, List.set_cons_succ]
      first | (refine Wk.skip (m := 12) (k := 1) rfl (by rfl) ?_) | (refine Wk.step (m := 12) (k := 1) (v := _) rfl (by rfl) (fun wv hS => by obtain ⟨s0, s1, s2, s3, s4, s5, s6⟩ := hS; go_simp; try with_reducible rfl) ?_)
      try simp only [Act.put, List.getElem_toArray, List.getElem_cons_succ, List.getElem_cons_zero, List.setIfInBounds_toArray, List.set_cons_zero, List.set_cons_succ]
      refine Wk.call (m := 11) (k := 2) (v := .bool true) _ _ rfl (by rfl) (fun wv hS => by obtain ⟨s0, s1, s2, s3, s4, s5, s6⟩ := hS; go_simp; first | done | exact ⟨rfl, rfl⟩ | with_reducible rfl) (fun wv hS => ?_) ?_; · obtain ⟨s0, s1, s2, s3, s4, s5, s6⟩ := hS; refine (specWF (some ⟨b, o, none⟩) a1 n0 c0 n1 c1 B zl x0 x1 a n c B' zs wv (hl.mk (M0.trans s0) hB (.inr (Nat.le_refl _))) (Nat.le_trans hB (M0.trans s0).size) hn0 hn1 (h.mk (M0.trans s0) hB' (.inr (Nat.le_refl _))) (Nat.le_trans hB' (M0.trans s0).size) hn).mono ?_; rintro e w' ⟨he, mm⟩; exact ⟨by rw [he, HW.out], ⟨s0.trans mm, mm.cellAt s1, mm.cellAt s2, mm.cellAt s3, mm.cellAt s4, mm.cellAt s5, mm.cellAt s6⟩⟩
      try simp only [Act.put, List.getElem_toArray, List.getElem_cons_succ, List.getElem_cons_zero, List.setIfInBounds_toArray, List.set_cons_zero, List.set_cons_succ]
      first | (refine Wk.skip (m := 10) (k := 3) rfl (by rfl) ?_) | (refine Wk.step (m := 10) (k := 3) (v := _) rfl (by rfl) (fun wv hS => by obtain ⟨s0, s1, s2, s3, s4, s5, s6⟩ := hS; go_simp; try with_reducible rfl) ?_)
      try simp only [Act.put, List.getElem_toArray, List.getElem_cons_succ, List.getElem_cons_zero, List.setIfInBounds_toArray, List.set_cons_zero, List.set_cons_succ]
      first | (refine Wk.skip (m := 9) (k := 4) rfl (by rfl) ?_) | (refine Wk.step (m := 9) (k := 4) (v := _) rfl (by rfl) (fun wv hS => by obtain ⟨s0, s1, s2, s3, s4, s5, s6⟩ := hS; go_simp; try with_reducible rfl) ?_)
      try simp only [Act.put, List.getElem_toArray, List.getElem_cons_succ, List.getElem_cons_zero, List.setIfInBounds_toArray, List.set_cons_zero, List.set_cons_succ]
      first | (refine Wk.skip (m := 8) (k := 5) rfl (by rfl) ?_) | (refine Wk.step (m := 8) (k := 5) (v := _) rfl (by rfl) (fun wv hS => by obtain ⟨s0, s1, s2, s3, s4, s5, s6⟩ := hS; go_simp; try with_reducible rfl) ?_)
      try simp only [Act.put, List.getElem_toArray, List.getElem_cons_succ, List.getElem_cons_zero, List.setIfInBounds_toArray, List.set_cons_zero, List.set_cons_succ]
      first | (refine Wk.skip (m := 7) (k := 6) rfl (by rfl) ?_) | (refine Wk.step (m := 7) (k := 6) (v := _) rfl (by rfl) (fun wv hS => by obtain ⟨s0, s1, s2, s3, s4, s5, s6⟩ := hS; go_simp; try with_reducible rfl) ?_)
      try simp only [Act.put, List.getElem_toArray, List.getElem_cons_succ, List.getElem_cons_zero, List.setIfInBounds_toArray, List.set_cons_zero, List.set_cons_succ]
      first | (refine Wk.skip (m := 6) (k := 7) rfl (by rfl) ?_) | (refine Wk.step (m := 6) (k := 7) (v := _) rfl (by rfl) (fun wv hS => by obtain ⟨s0, s1, s2, s3, s4, s5, s6⟩ := hS; go_simp; try with_reducible rfl) ?_)
      try simp only [Act.put, List.getElem_toArray, List.getElem_cons_succ, List.getElem_cons_zero, List.setIfInBounds_toArray, List.set_cons_zero, List.set_cons_succ]
      refine Wk.call (m := 5) (k := 8) (v := .int .i64 (q : Int)) _ _ rfl (by rfl) (fun wv hS => by obtain ⟨s0, s1, s2, s3, s4, s5, s6⟩ := hS; go_simp; first | done | exact ⟨rfl, rfl⟩ | with_reducible rfl) (fun wv hS => ?_) ?_; · obtain ⟨s0, s1, s2, s3, s4, s5, s6⟩ := hS; refine (specFirst x0 x1 a n c B' zs wv (h.mk (M0.trans s0) hB' (.inr (Nat.le_refl _))) (Nat.le_trans hB' (M0.trans s0).size) hn).mono ?_; rintro e w' ⟨he, mm⟩; exact ⟨by rw [he, HV.out], ⟨s0.trans mm, mm.cellAt s1, mm.cellAt s2, mm.cellAt s3, mm.cellAt s4, mm.cellAt s5, mm.cellAt s6⟩⟩
      try simp only [Act.put, List.getElem_toArray, List.getElem_cons_succ, List.getElem_cons_zero, List.setIfInBounds_toArray, List.set_cons_zero, List.set_cons_succ]
      first | (refine Wk.skip (m := 4) (k := 9) rfl (by rfl) ?_) | (refine Wk.step (m := 4) (k := 9) (v := _) rfl (by rfl) (fun wv hS => by obtain ⟨s0, s1, s2, s3, s4, s5, s6⟩ := hS; go_simp; try with_reducible rfl) ?_)
      try simp only [Act.put, List.getElem_toArray, List.getElem_cons_succ, List.getElem_cons_zero, List.setIfInBounds_toArray, List.set_cons_zero, List.set_cons_succ]
      first | (refine Wk.skip (m := 3) (k := 10) rfl (by rfl) ?_) | (refine Wk.step (m := 3) (k := 10) (v := _) rfl (by rfl) (fun wv hS => by obtain ⟨s0, s1, s2, s3, s4, s5, s6⟩ := hS; go_simp; try with_reducible rfl) ?_)
      try simp only [Act.put, List.getElem_toArray, List.getElem_cons_succ, List.getElem_cons_zero, List.setIfInBounds_toArray, List.set_cons_zero, List.set_cons_succ]
      first | (refine Wk.skip (m := 2) (k := 11) rfl (by rfl) ?_) | (refine Wk.step (m := 2) (k := 11) (v := _) rfl (by rfl) (fun wv hS => by obtain ⟨s0, s1, s2, s3, s4, s5, s6⟩ := hS; go_simp; try with_reducible rfl) ?_)
      try simp only [Act.put, List.getElem_toArray, List.getElem_cons_succ, List.getElem_cons_zero, List.setIfInBounds_toArray, List.set_cons_zero, List.set_cons_succ]
      first | (refine Wk.skip (m := 1) (k := 12) rfl (by rfl) ?_) | (refine Wk.step (m := 1) (k := 12) (v := _) rfl (by rfl) (fun wv hS => by obtain ⟨s0, s1, s2, s3, s4, s5, s6⟩ := hS; go_simp; try with_reducible rfl) ?_)
      try simp only [Act.put, List.getElem_toArray, List.getElem_cons_succ, List.getElem_cons_zero, List.setIfInBounds_toArray, List.set_cons_zero, List.set_cons_succ]
      first | (refine Wk.skip (m := 0) (k := 13) rfl (by rfl) ?_) | (refine Wk.step (m := 0) (k := 13) (v := _) rfl (by rfl) (fun wv hS => by obtain ⟨s0, s1, s2, s3, s4, s5, s6⟩ := hS; go_simp; try with_reducible rfl) ?_)
      try simp only [Act.put, List.getElem_toArray, List.getElem_cons_succ, List.getElem_cons_zero, List.setIfInBounds_toArray, List.set_cons_zero, List.set_cons_succ]
      refine Wk.done fun wE hE => ?_
      clear k0 k1 j0 j1 j2 d1
      obtain ⟨mE, k0, k1, j0, j1, j2, d1⟩ := hE
      have M1 := M0.trans mE
      clear d1
      go_wp2_with fail
      go_loopw [4, 5, 6] (fun r v i wr => r = .int .i64 0 ∧ ∃ (k : Nat) (κ : Int), k ≤ n ∧ i = .int .i64 k ∧ v = .int .i64 κ ∧ Hid (kdUp zl n1 zs k = some κ) ∧ Mk0 wE wr) (fun _ _ i _ => n - (intOf i).toNat)
      case atStart => exact ⟨rfl, 0, 0, Nat.zero_le _, rfl, rfl, rfl, Mk.refl _ _ _⟩
      case round =>
        obtain ⟨rfl, k, κ, hk, rfl, rfl, hS, hM⟩ := hrel
        replace k0 := hM.cellAt k0
        replace k1 := hM.cellAt k1
        replace j2 := hM.cellAt j2
        have hM' := M1.trans hM
        clear j0 j1
        by_cases hlt : k < n
        · obtain ⟨b2, off, x, rfl, hb2, hx, d0, d1, d2, d3, d4⟩ := HasHop.at _ _ _ _ _ _ (h.mk hM' hB' (.inr (Nat.le_refl _))) hlt
          clear d1 d3 d4
          have hbr := World.block_lt_of_cell? _ _ d0
          have hbj := World.block_lt_of_cell? _ _ j2
          simp only at hbr hbj
          have i3 : (0 : Int) ≤ (k : Int) := by omega
          have i4 : (k : Int) < (n : Int) := by omega
          cases e : (x.eg == 0)
          · have hstep := kdUp_step (zl := zl) (n1 := n1) (zs := zs) (k := k) (by rw [← hx.out]; simpa using e)
            obtain ⟨V, hV⟩ : ∃ V, Hid (V = kindOf zl x.nd x.eg n1) := ⟨_, Lib.hid rfl⟩
            rw [← hx.out, ← hV.out, hS.out] at hstep
            cases e0 : (κ == 0)
            · have f0 : (κ != 0) = true := by simp only [bne, e0]; rfl
              cases e1 : (V == κ)
              · have f1 : (V != κ) = true := by simp only [bne, e1]; rfl
                have HN := Lib.hid (kdUp_none (hstep.trans (show stK (some κ) V = none by show (if (κ != 0 && V != κ) = true then none else some V) = none; rw [f0, f1]; rfl)) n (by omega))
                clear hstep e0 e1
                go_wp2_with fail
                refine wp_region_wk (fun w' => Mk0 wr w' ∧ w'.cell? ⟨w.heap.size, 0, none⟩ = some (.slice (some ⟨b, o, none⟩) n0 c0) ∧ w'.cell? ⟨w.heap.size, 1, none⟩ = some (.slice a1 n1 c1) ∧ w'.cell? ⟨w.heap.size + 1, 2, none⟩ = some (.slice (some ⟨b2, off, none⟩) n c) ∧ w'.cell? ⟨b2, off + k * 5, none⟩ = some (.int .i64 x.nd) ∧ w'.cell? ⟨b2, off + k * 5 + 2, none⟩ = some (.int .i64 x.eg)) (by kernel_rfl) (by kernel_rfl) (⟨Mk.drew1 _, k0, k1, j2, d0, d2⟩) ?_
                change Wk _ _ _ _ 15 0 _
                first | (refine Wk.skip (m := 14) (k := 0) rfl (by rfl) ?_) | (refine Wk.step (m := 14) (k := 0) (v := _) rfl (by rfl) (fun wv hS => by obtain ⟨s0, s1, s2, s3, s4, s5⟩ := hS; go_simp; try with_reducible rfl) ?_)
                try simp only [Act.put, List.getElem_toArray, List.getElem_cons_zero, List.setIfInBounds_toArray, List.set_cons_zero, List.set_cons_succ]
                first | (refine Wk.skip (m := 13) (k := 1) rfl (by rfl) ?_) | (refine Wk.step (m := 13) (k := 1) (v := _) rfl (by rfl) (fun wv hS => by obtain ⟨s0, s1, s2, s3, s4, s5⟩ := hS; go_simp; try with_reducible rfl) ?_)
                try simp only [Act.put, List.getElem_toArray, List.getElem_cons_succ, List.getElem_cons_zero, List.setIfInBounds_toArray, List.set_cons_zero, List.set_cons_succ]
                first | (refine Wk.skip (m := 12) (k := 2) rfl (by rfl) ?_) | (refine Wk.step (m := 12) (k := 2) (v := _) rfl (by rfl) (fun wv hS => by obtain ⟨s0, s1, s2, s3, s4, s5⟩ := hS; go_simp; try with_reducible rfl) ?_)
                try simp only [Act.put, List.getElem_toArray, List.getElem_cons_succ, List.getElem_cons_zero, List.setIfInBounds_toArray, List.set_cons_zero, List.set_cons_succ]
                first | (refine Wk.skip (m := 11) (k := 3) rfl (by rfl) ?_) | (refine Wk.step (m := 11) (k := 3) (v := _) rfl (by rfl) (fun wv hS => by obtain ⟨s0, s1, s2, s3, s4, s5⟩ := hS; go_simp; try with_reducible rfl) ?_)
                try simp only [Act.put, List.getElem_toArray, List.getElem_cons_succ, List.getElem_cons_zero, List.setIfInBounds_toArray, List.set_cons_zero, List.set_cons_succ]
                first | (refine Wk.skip (m := 10) (k := 4) rfl (by rfl) ?_) | (refine Wk.step (m := 10) (k := 4) (v := _) rfl (by rfl) (fun wv hS => by obtain ⟨s0, s1, s2, s3, s4, s5⟩ := hS; go_simp; try with_reducible rfl) ?_)
                try simp only [Act.put, List.getElem_toArray, List.getElem_cons_succ, List.getElem_cons_zero, List.setIfInBounds_toArray, List.set_cons_zero, List.set_cons_succ]
                first | (refine Wk.skip (m := 9) (k := 5) rfl (by rfl) ?_) | (refine Wk.step (m := 9) (k := 5) (v := _) rfl (by rfl) (fun wv hS => by obtain ⟨s0, s1, s2, s3, s4, s5⟩ := hS; go_simp; try with_reducible rfl) ?_)
                try simp only [Act.put, List.getElem_toArray, List.getElem_cons_succ, List.getElem_cons_zero, List.setIfInBounds_toArray, List.set_cons_zero, List.set_cons_succ]
                first | (refine Wk.skip (m := 8) (k := 6) rfl (by rfl) ?_) | (refine Wk.step (m := 8) (k := 6) (v := _) rfl (by rfl) (fun wv hS => by obtain ⟨s0, s1, s2, s3, s4, s5⟩ := hS; go_simp; try with_reducible rfl) ?_)
                try simp only [Act.put, List.getElem_toArray, List.getElem_cons_succ, List.getElem_cons_zero, List.setIfInBounds_toArray, List.set_cons_zero, List.set_cons_succ]
                first | (refine Wk.skip (m := 7) (k := 7) rfl (by rfl) ?_) | (refine Wk.step (m := 7) (k := 7) (v := _) rfl (by rfl) (fun wv hS => by obtain ⟨s0, s1, s2, s3, s4, s5⟩ := hS; go_simp; try with_reducible rfl) ?_)
                try simp only [Act.put, List.getElem_toArray, List.getElem_cons_succ, List.getElem_cons_zero, List.setIfInBounds_toArray, List.set_cons_zero, List.set_cons_succ]
                first | (refine Wk.skip (m := 6) (k := 8) rfl (by rfl) ?_) | (refine Wk.step (m := 6) (k := 8) (v := _) rfl (by rfl) (fun wv hS => by obtain ⟨s0, s1, s2, s3, s4, s5⟩ := hS; go_simp; try with_reducible rfl) ?_)
                try simp only [Act.put, List.getElem_toArray, List.getElem_cons_succ, List.getElem_cons_zero, List.setIfInBounds_toArray, List.set_cons_zero, List.set_cons_succ]
                first | (refine Wk.skip (m := 5) (k := 9) rfl (by rfl) ?_) | (refine Wk.step (m := 5) (k := 9) (v := _) rfl (by rfl) (fun wv hS => by obtain ⟨s0, s1, s2, s3, s4, s5⟩ := hS; go_simp; try with_reducible rfl) ?_)
                try simp only [Act.put, List.getElem_toArray, List.getElem_cons_succ, List.getElem_cons_zero, List.setIfInBounds_toArray, List.set_cons_zero, List.set_cons_succ]
                first | (refine Wk.skip (m := 4) (k := 10) rfl (by rfl) ?_) | (refine Wk.step (m := 4) (k := 10) (v := _) rfl (by rfl) (fun wv hS => by obtain ⟨s0, s1, s2, s3, s4, s5⟩ := hS; go_simp; try with_reducible rfl) ?_)
                try simp only [Act.put, List.getElem_toArray, List.getElem_cons_succ, List.getElem_cons_zero, List.setIfInBounds_toArray, List.set_cons_zero, List.set_cons_succ]
                first | (refine Wk.skip (m := 3) (k := 11) rfl (by rfl) ?_) | (refine Wk.step (m := 3) (k := 11) (v := _) rfl (by rfl) (fun wv hS => by obtain ⟨s0, s1, s2, s3, s4, s5⟩ := hS; go_simp; try with_reducible rfl) ?_)
                try simp only [Act.put, List.getElem_toArray, List.getElem_cons_succ, List.getElem_cons_zero, List.setIfInBounds_toArray, List.set_cons_zero, List.set_cons_succ]
                first | (refine Wk.skip (m := 2) (k := 12) rfl (by rfl) ?_) | (refine Wk.step (m := 2) (k := 12) (v := _) rfl (by rfl) (fun wv hS => by obtain ⟨s0, s1, s2, s3, s4, s5⟩ := hS; go_simp; try with_reducible rfl) ?_)
                try simp only [Act.put, List.getElem_toArray, List.getElem_cons_succ, List.getElem_cons_zero, List.setIfInBounds_toArray, List.set_cons_zero, List.set_cons_succ]
                refine Wk.call (m := 1) (k := 13) (v := .int .i64 V) _ _ rfl (by rfl) (fun wv hS => by obtain ⟨s0, s1, s2, s3, s4, s5⟩ := hS; go_simp; first | done | exact ⟨rfl, rfl⟩ | with_reducible rfl) (fun wv hS => ?_) ?_; · obtain ⟨s0, s1, s2, s3, s4, s5⟩ := hS; refine (specKind (some ⟨b, o, none⟩) a1 n0 c0 n1 c1 B zl x.nd x.eg wv (hl.mk (hM'.trans s0) hB (.inr (Nat.le_refl _))) (Nat.le_trans hB (hM'.trans s0).size) hn1).mono ?_; rintro e w' ⟨he, mm⟩; exact ⟨by rw [he, ← hV.out], ⟨s0.trans mm, mm.cellAt s1, mm.cellAt s2, mm.cellAt s3, mm.cellAt s4, mm.cellAt s5⟩⟩
                try simp only [Act.put, List.getElem_toArray, List.getElem_cons_succ, List.getElem_cons_zero, List.setIfInBounds_toArray, List.set_cons_zero, List.set_cons_succ]
                first | (refine Wk.skip (m := 0) (k := 14) rfl (by rfl) ?_) | (refine Wk.step (m := 0) (k := 14) (v := _) rfl (by rfl) (fun wv hS => by obtain ⟨s0, s1, s2, s3, s4, s5⟩ := hS; go_simp; try with_reducible rfl) ?_)
                try simp only [Act.put, List.getElem_toArray, List.getElem_cons_succ, List.getElem_cons_zero, List.setIfInBounds_toArray, List.set_cons_zero, List.set_cons_succ]
                refine Wk.done fun wE hE => ?_
                clear k0 k1 j2 d0 d2
                obtain ⟨mE, k0, k1, j2, d0, d2⟩ := hE
                have hM2 := hM.trans mE
                go_wp2_with fail
                go_ret
                exact ⟨retI (by rw [HR.out, HN.out]; rfl), M1.trans hM2⟩
              · have f1 : (V != κ) = false := by simp only [bne, e1]; rfl
                have HN := Lib.hid (hstep.trans (show stK (some κ) V = some V by show (if (κ != 0 && V != κ) = true then none else some V) = some V; rw [f1, Bool.and_false]; rfl))
                clear hstep e0 e1
                go_wp2_with fail
                refine wp_region_wk (fun w' => Mk0 wr w' ∧ w'.cell? ⟨w.heap.size, 0, none⟩ = some (.slice (some ⟨b, o, none⟩) n0 c0) ∧ w'.cell? ⟨w.heap.size, 1, none⟩ = some (.slice a1 n1 c1) ∧ w'.cell? ⟨w.heap.size + 1, 2, none⟩ = some (.slice (some ⟨b2, off, none⟩) n c) ∧ w'.cell? ⟨b2, off + k * 5, none⟩ = some (.int .i64 x.nd) ∧ w'.cell? ⟨b2, off + k * 5 + 2, none⟩ = some (.int .i64 x.eg)) (by kernel_rfl) (by kernel_rfl) (⟨Mk.drew1 _, k0, k1, j2, d0, d2⟩) ?_
                change Wk _ _ _ _ 15 0 _
                first | (refine Wk.skip (m := 14) (k := 0) rfl (by rfl) ?_) | (refine Wk.step (m := 14) (k := 0) (v := _) rfl (by rfl) (fun wv hS => by obtain ⟨s0, s1, s2, s3, s4, s5⟩ := hS; go_simp; try with_reducible rfl) ?_)
                try simp only [Act.put, List.getElem_toArray, List.getElem_cons_zero, List.setIfInBounds_toArray, List.set_cons_zero, List.set_cons_succ]
                first | (refine Wk.skip (m := 13) (k := 1) rfl (by rfl) ?_) | (refine Wk.step (m := 13) (k := 1) (v := _) rfl (by rfl) (fun wv hS => by obtain ⟨s0, s1, s2, s3, s4, s5⟩ := hS; go_simp; try with_reducible rfl) ?_)
                try simp only [Act.put, List.getElem_toArray, List.getElem_cons_succ, List.getElem_cons_zero, List.setIfInBounds_toArray, List.set_cons_zero, List.set_cons_succ]
                first | (refine Wk.skip (m := 12) (k := 2) rfl (by rfl) ?_) | (refine Wk.step (m := 12) (k := 2) (v := _) rfl (by rfl) (fun wv hS => by obtain ⟨s0, s1, s2, s3, s4, s5⟩ := hS; go_simp; try with_reducible rfl) ?_)
                try simp only [Act.put, List.getElem_toArray, List.getElem_cons_succ, List.getElem_cons_zero, List.setIfInBounds_toArray, List.set_cons_zero, List.set_cons_succ]
                first | (refine Wk.skip (m := 11) (k := 3) rfl (by rfl) ?_) | (refine Wk.step (m := 11) (k := 3) (v := _) rfl (by rfl) (fun wv hS => by obtain ⟨s0, s1, s2, s3, s4, s5⟩ := hS; go_simp; try with_reducible rfl) ?_)
                try simp only [Act.put, List.getElem_toArray, List.getElem_cons_succ, List.getElem_cons_zero, List.setIfInBounds_toArray, List.set_cons_zero, List.set_cons_succ]
                first | (refine Wk.skip (m := 10) (k := 4) rfl (by rfl) ?_) | (refine Wk.step (m := 10) (k := 4) (v := _) rfl (by rfl) (fun wv hS => by obtain ⟨s0, s1, s2, s3, s4, s5⟩ := hS; go_simp; try with_reducible rfl) ?_)
                try simp only [Act.put, List.getElem_toArray, List.getElem_cons_succ, List.getElem_cons_zero, List.setIfInBounds_toArray, List.set_cons_zero, List.set_cons_succ]
                first | (refine Wk.skip (m := 9) (k := 5) rfl (by rfl) ?_) | (refine Wk.step (m := 9) (k := 5) (v := _) rfl (by rfl) (fun wv hS => by obtain ⟨s0, s1, s2, s3, s4, s5⟩ := hS; go_simp; try with_reducible rfl) ?_)
                try simp only [Act.put, List.getElem_toArray, List.getElem_cons_succ, List.getElem_cons_zero, List.setIfInBounds_toArray, List.set_cons_zero, List.set_cons_succ]
                first | (refine Wk.skip (m := 8) (k := 6) rfl (by rfl) ?_) | (refine Wk.step (m := 8) (k := 6) (v := _) rfl (by rfl) (fun wv hS => by obtain ⟨s0, s1, s2, s3, s4, s5⟩ := hS; go_simp; try with_reducible rfl) ?_)
                try simp only [Act.put, List.getElem_toArray, List.getElem_cons_succ, List.getElem_cons_zero, List.setIfInBounds_toArray, List.set_cons_zero, List.set_cons_succ]
                first | (refine Wk.skip (m := 7) (k := 7) rfl (by rfl) ?_) | (refine Wk.step (m := 7) (k := 7) (v := _) rfl (by rfl) (fun wv hS => by obtain ⟨s0, s1, s2, s3, s4, s5⟩ := hS; go_simp; try with_reducible rfl) ?_)
                try simp only [Act.put, List.getElem_toArray, List.getElem_cons_succ, List.getElem_cons_zero, List.setIfInBounds_toArray, List.set_cons_zero, List.set_cons_succ]
                first | (refine Wk.skip (m := 6) (k := 8) rfl (by rfl) ?_) | (refine Wk.step (m := 6) (k := 8) (v := _) rfl (by rfl) (fun wv hS => by obtain ⟨s0, s1, s2, s3, s4, s5⟩ := hS; go_simp; try with_reducible rfl) ?_)
                try simp only [Act.put, List.getElem_toArray, List.getElem_cons_succ, List.getElem_cons_zero, List.setIfInBounds_toArray, List.set_cons_zero, List.set_cons_succ]
                first | (refine Wk.skip (m := 5) (k := 9) rfl (by rfl) ?_) | (refine Wk.step (m := 5) (k := 9) (v := _) rfl (by rfl) (fun wv hS => by obtain ⟨s0, s1, s2, s3, s4, s5⟩ := hS; go_simp; try with_reducible rfl) ?_)
                try simp only [Act.put, List.getElem_toArray, List.getElem_cons_succ, List.getElem_cons_zero, List.setIfInBounds_toArray, List.set_cons_zero, List.set_cons_succ]
                first | (refine Wk.skip (m := 4) (k := 10) rfl (by rfl) ?_) | (refine Wk.step (m := 4) (k := 10) (v := _) rfl (by rfl) (fun wv hS => by obtain ⟨s0, s1, s2, s3, s4, s5⟩ := hS; go_simp; try with_reducible rfl) ?_)
                try simp only [Act.put, List.getElem_toArray, List.getElem_cons_succ, List.getElem_cons_zero, List.setIfInBounds_toArray, List.set_cons_zero, List.set_cons_succ]
                first | (refine Wk.skip (m := 3) (k := 11) rfl (by rfl) ?_) | (refine Wk.step (m := 3) (k := 11) (v := _) rfl (by rfl) (fun wv hS => by obtain ⟨s0, s1, s2, s3, s4, s5⟩ := hS; go_simp; try with_reducible rfl) ?_)
                try simp only [Act.put, List.getElem_toArray, List.getElem_cons_succ, List.getElem_cons_zero, List.setIfInBounds_toArray, List.set_cons_zero, List.set_cons_succ]
                first | (refine Wk.skip (m := 2) (k := 12) rfl (by rfl) ?_) | (refine Wk.step (m := 2) (k := 12) (v := _) rfl (by rfl) (fun wv hS => by obtain ⟨s0, s1, s2, s3, s4, s5⟩ := hS; go_simp; try with_reducible rfl) ?_)
                try simp only [Act.put, List.getElem_toArray, List.getElem_cons_succ, List.getElem_cons_zero, List.setIfInBounds_toArray, List.set_cons_zero, List.set_cons_succ]
                refine Wk.call (m := 1) (k := 13) (v := .int .i64 V) _ _ rfl (by rfl) (fun wv hS => by obtain ⟨s0, s1, s2, s3, s4, s5⟩ := hS; go_simp; first | done | exact ⟨rfl, rfl⟩ | with_reducible rfl) (fun wv hS => ?_) ?_; · obtain ⟨s0, s1, s2, s3, s4, s5⟩ := hS; refine (specKind (some ⟨b, o, none⟩) a1 n0 c0 n1 c1 B zl x.nd x.eg wv (hl.mk (hM'.trans s0) hB (.inr (Nat.le_refl _))) (Nat.le_trans hB (hM'.trans s0).size) hn1).mono ?_; rintro e w' ⟨he, mm⟩; exact ⟨by rw [he, ← hV.out], ⟨s0.trans mm, mm.cellAt s1, mm.cellAt s2, mm.cellAt s3, mm.cellAt s4, mm.cellAt s5⟩⟩
                try simp only [Act.put, List.getElem_toArray, List.getElem_cons_succ, List.getElem_cons_zero, List.setIfInBounds_toArray, List.set_cons_zero, List.set_cons_succ]
                first | (refine Wk.skip (m := 0) (k := 14) rfl (by rfl) ?_) | (refine Wk.step (m := 0) (k := 14) (v := _) rfl (by rfl) (fun wv hS => by obtain ⟨s0, s1, s2, s3, s4, s5⟩ := hS; go_simp; try with_reducible rfl) ?_)
                try simp only [Act.put, List.getElem_toArray, List.getElem_cons_succ, List.getElem_cons_zero, List.setIfInBounds_toArray, List.set_cons_zero, List.set_cons_succ]
                refine Wk.done fun wE hE => ?_
                clear k0 k1 j2 d0 d2
                obtain ⟨mE, k0, k1, j2, d0, d2⟩ := hE
                have hM2 := hM.trans mE
                go_wp2_with fail
                go_roundw
                case rel => exact ⟨rfl, k + 1, V, by omega, by go_num, rfl, HN.out, hM2⟩
                case measure => simp [intOf]; omega
            · have f0 : (κ != 0) = false := by simp only [bne, e0]; rfl
              have HN := Lib.hid (hstep.trans (show stK (some κ) V = some V by show (if (κ != 0 && V != κ) = true then none else some V) = some V; rw [f0]; rfl))
              clear hstep e0
              go_wp2_with fail
              refine wp_region_wk (fun w' => Mk0 wr w' ∧ w'.cell? ⟨w.heap.size, 0, none⟩ = some (.slice (some ⟨b, o, none⟩) n0 c0) ∧ w'.cell? ⟨w.heap.size, 1, none⟩ = some (.slice a1 n1 c1) ∧ w'.cell? ⟨w.heap.size + 1, 2, none⟩ = some (.slice (some ⟨b2, off, none⟩) n c) ∧ w'.cell? ⟨b2, off + k * 5, none⟩ = some (.int .i64 x.nd) ∧ w'.cell? ⟨b2, off + k * 5 + 2, none⟩ = some (.int .i64 x.eg)) (by kernel_rfl) (by kernel_rfl) (⟨Mk.drew1 _, k0, k1, j2, d0, d2⟩) ?_
              change Wk _ _ _ _ 15 0 _
              first | (refine Wk.skip (m := 14) (k := 0) rfl (by rfl) ?_) | (refine Wk.step (m := 14) (k := 0) (v := _) rfl (by rfl) (fun wv hS => by obtain ⟨s0, s1, s2, s3, s4, s5⟩ := hS; go_simp; try with_reducible rfl) ?_)
              try simp only [Act.put, List.getElem_toArray, List.getElem_cons_zero, List.setIfInBounds_toArray, List.set_cons_zero, List.set_cons_succ]
              first | (refine Wk.skip (m := 13) (k := 1) rfl (by rfl) ?_) | (refine Wk.step (m := 13) (k := 1) (v := _) rfl (by rfl) (fun wv hS => by obtain ⟨s0, s1, s2, s3, s4, s5⟩ := hS; go_simp; try with_reducible rfl) ?_)
              try simp only [Act.put, List.getElem_toArray, List.getElem_cons_succ, List.getElem_cons_zero, List.setIfInBounds_toArray, List.set_cons_zero, List.set_cons_succ]
              first | (refine Wk.skip (m := 12) (k := 2) rfl (by rfl) ?_) | (refine Wk.step (m := 12) (k := 2) (v := _) rfl (by rfl) (fun wv hS => by obtain ⟨s0, s1, s2, s3, s4, s5⟩ := hS; go_simp; try with_reducible rfl) ?_)
              try simp only [Act.put, List.getElem_toArray, List.getElem_cons_succ, List.getElem_cons_zero, List.setIfInBounds_toArray, List.set_cons_zero, List.set_cons_succ]
              first | (refine Wk.skip (m := 11) (k := 3) rfl (by rfl) ?_) | (refine Wk.step (m := 11) (k := 3) (v := _) rfl (by rfl) (fun wv hS => by obtain ⟨s0, s1, s2, s3, s4, s5⟩ := hS; go_simp; try with_reducible rfl) ?_)
              try simp only [Act.put, List.getElem_toArray, List.getElem_cons_succ, List.getElem_cons_zero, List.setIfInBounds_toArray, List.set_cons_zero, List.set_cons_succ]
              first | (refine Wk.skip (m := 10) (k := 4) rfl (by rfl) ?_) | (refine Wk.step (m := 10) (k := 4) (v := _) rfl (by rfl) (fun wv hS => by obtain ⟨s0, s1, s2, s3, s4, s5⟩ := hS; go_simp; try with_reducible rfl) ?_)
              try simp only [Act.put, List.getElem_toArray, List.getElem_cons_succ, List.getElem_cons_zero, List.setIfInBounds_toArray, List.set_cons_zero, List.set_cons_succ]
              first | (refine Wk.skip (m := 9) (k := 5) rfl (by rfl) ?_) | (refine Wk.step (m := 9) (k := 5) (v := _) rfl (by rfl) (fun wv hS => by obtain ⟨s0, s1, s2, s3, s4, s5⟩ := hS; go_simp; try with_reducible rfl) ?_)
              try simp only [Act.put, List.getElem_toArray, List.getElem_cons_succ, List.getElem_cons_zero, List.setIfInBounds_toArray, List.set_cons_zero, List.set_cons_succ]
              first | (refine Wk.skip (m := 8) (k := 6) rfl (by rfl) ?_) | (refine Wk.step (m := 8) (k := 6) (v := _) rfl (by rfl) (fun wv hS => by obtain ⟨s0, s1, s2, s3, s4, s5⟩ := hS; go_simp; try with_reducible rfl) ?_)
              try simp only [Act.put, List.getElem_toArray, List.getElem_cons_succ, List.getElem_cons_zero, List.setIfInBounds_toArray, List.set_cons_zero, List.set_cons_succ]
              first | (refine Wk.skip (m := 7) (k := 7) rfl (by rfl) ?_) | (refine Wk.step (m := 7) (k := 7) (v := _) rfl (by rfl) (fun wv hS => by obtain ⟨s0, s1, s2, s3, s4, s5⟩ := hS; go_simp; try with_reducible rfl) ?_)
              try simp only [Act.put, List.getElem_toArray, List.getElem_cons_succ, List.getElem_cons_zero, List.setIfInBounds_toArray, List.set_cons_zero, List.set_cons_succ]
              first | (refine Wk.skip (m := 6) (k := 8) rfl (by rfl) ?_) | (refine Wk.step (m := 6) (k := 8) (v := _) rfl (by rfl) (fun wv hS => by obtain ⟨s0, s1, s2, s3, s4, s5⟩ := hS; go_simp; try with_reducible rfl) ?_)
              try simp only [Act.put, List.getElem_toArray, List.getElem_cons_succ, List.getElem_cons_zero, List.setIfInBounds_toArray, List.set_cons_zero, List.set_cons_succ]
              first | (refine Wk.skip (m := 5) (k := 9) rfl (by rfl) ?_) | (refine Wk.step (m := 5) (k := 9) (v := _) rfl (by rfl) (fun wv hS => by obtain ⟨s0, s1, s2, s3, s4, s5⟩ := hS; go_simp; try with_reducible rfl) ?_)
              try simp only [Act.put, List.getElem_toArray, List.getElem_cons_succ, List.getElem_cons_zero, List.setIfInBounds_toArray, List.set_cons_zero, List.set_cons_succ]
              first | (refine Wk.skip (m := 4) (k := 10) rfl (by rfl) ?_) | (refine Wk.step (m := 4) (k := 10) (v := _) rfl (by rfl) (fun wv hS => by obtain ⟨s0, s1, s2, s3, s4, s5⟩ := hS; go_simp; try with_reducible rfl) ?_)
              try simp only [Act.put, List.getElem_toArray, List.getElem_cons_succ, List.getElem_cons_zero, List.setIfInBounds_toArray, List.set_cons_zero, List.set_cons_succ]
              first | (refine Wk.skip (m := 3) (k := 11) rfl (by rfl) ?_) | (refine Wk.step (m := 3) (k := 11) (v := _) rfl (by rfl) (fun wv hS => by obtain ⟨s0, s1, s2, s3, s4, s5⟩ := hS; go_simp; try with_reducible rfl) ?_)
              try simp only [Act.put, List.getElem_toArray, List.getElem_cons_succ, List.getElem_cons_zero, List.setIfInBounds_toArray, List.set_cons_zero, List.set_cons_succ]
              first | (refine Wk.skip (m := 2) (k := 12) rfl (by rfl) ?_) | (refine Wk.step (m := 2) (k := 12) (v := _) rfl (by rfl) (fun wv hS => by obtain ⟨s0, s1, s2, s3, s4, s5⟩ := hS; go_simp; try with_reducible rfl) ?_)
              try simp only [Act.put, List.getElem_toArray, List.getElem_cons_succ, List.getElem_cons_zero, List.setIfInBounds_toArray, List.set_cons_zero, List.set_cons_succ]
              refine Wk.call (m := 1) (k := 13) (v := .int .i64 V) _ _ rfl (by rfl) (fun wv hS => by obtain ⟨s0, s1, s2, s3, s4, s5⟩ := hS; go_simp; first | done | exact ⟨rfl, rfl⟩ | with_reducible rfl) (fun wv hS => ?_) ?_; · obtain ⟨s0, s1, s2, s3, s4, s5⟩ := hS; refine (specKind (some ⟨b, o, none⟩) a1 n0 c0 n1 c1 B zl x.nd x.eg wv (hl.mk (hM'.trans s0) hB (.inr (Nat.le_refl _))) (Nat.le_trans hB (hM'.trans s0).size) hn1).mono ?_; rintro e w' ⟨he, mm⟩; exact ⟨by rw [he, ← hV.out], ⟨s0.trans mm, mm.cellAt s1, mm.cellAt s2, mm.cellAt s3, mm.cellAt s4, mm.cellAt s5⟩⟩
              try simp only [Act.put, List.getElem_toArray, List.getElem_cons_succ, List.getElem_cons_zero, List.setIfInBounds_toArray, List.set_cons_zero, List.set_cons_succ]
              first | (refine Wk.skip (m := 0) (k := 14) rfl (by rfl) ?_) | (refine Wk.step (m := 0) (k := 14) (v := _) rfl (by rfl) (fun wv hS => by obtain ⟨s0, s1, s2, s3, s4, s5⟩ := hS; go_simp; try with_reducible rfl) ?_)
              try simp only [Act.put, List.getElem_toArray, List.getElem_cons_succ, List.getElem_cons_zero, List.setIfInBounds_toArray, List.set_cons_zero, List.set_cons_succ]
              refine Wk.done fun wE hE => ?_
              clear k0 k1 j2 d0 d2
              obtain ⟨mE, k0, k1, j2, d0, d2⟩ := hE
              have hM2 := hM.trans mE
              go_wp2_with fail
              go_roundw
              case rel => exact ⟨rfl, k + 1, V, by omega, by go_num, rfl, HN.out, hM2⟩
              case measure => simp [intOf]; omega
          · have HE := Lib.hid (show kdUp zl n1 zs (k + 1) = some κ by rw [kdUp_skip (by rw [← hx.out]; simpa using e), hS.out])
            have hM2 := hM
            go_wp2_with fail
            go_roundw
            case rel => exact ⟨rfl, k + 1, κ, by omega, by go_num, rfl, HE.out, hM2⟩
            case measure => simp [intOf]; omega
        · obtain rfl : k = n := by omega
          cases e1 : (κ == 1)
          · have n1' : κ ≠ 1 := by simpa using e1
            cases e2 : (κ == 2)
            · have n2' : κ ≠ 2 := by simpa using e2
              have HE := Lib.hid (show sgKd n0 zA zl n1 zs k = 0 by rw [HR.out, hS.out]; simp [resS, n1', n2'])
              clear n1' n2'
              go_wp2_with fail
              go_ret
              exact ⟨retI HE.out.symm, hM'⟩
            · have n2' : κ = 2 := by simpa using e2
              have HE := Lib.hid (show sgKd n0 zA zl n1 zs k = 2 by rw [HR.out, hS.out]; rw [n2']; rfl)
              clear n1' n2'
              go_wp2_with fail
              go_ret
              exact ⟨retI HE.out.symm, hM'⟩
          · have n1' : κ = 1 := by simpa using e1
            have HE := Lib.hid (show sgKd n0 zA zl n1 zs k = 1 by rw [HR.out, hS.out]; rw [n1']; rfl)
            clear n1'
            go_wp2_with fail
            go_ret
            exact ⟨retI HE.out.symm, hM'⟩

end Go.Proofs.Ytmpanhbjppnpbaa
