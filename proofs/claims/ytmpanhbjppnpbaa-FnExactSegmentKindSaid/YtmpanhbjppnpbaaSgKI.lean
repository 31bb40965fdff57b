
/- SegmentKind of both sides. -/
import Derived.Test.YtmpanhbjppnpbaaSgDrop
import Derived.Test.YtmpanhbjppnpbaaWF
import Derived.Test.YtmpanhbjppnpbaaSegA
namespace Go.Proofs.Ytmpanhbjppnpbaa
open Go.ChangeShapes Go.WideShapes Go.ChangeAt Go.RowKit
set_option linter.unusedVariables false
/-- What the model knows behind some interfaces: none: two kinds have come; a kind: that one alone. -/
def stK (o : Option Int) (x : Int) : Option Int := o.bind fun k => if k != 0 && x != k then none else some x
def resS (o : Option Int) : Int := match o with
  | some k => if k = 1 then 1 else if k = 2 then 2 else 0
  | none => 0
def resI (L : List Int) : Int := if L.length = 0 then 0 else if L.all (· == 1) then 1 else if L.all (· == 2) then 2 else 0
theorem stK_none (L : List Int) : L.foldl stK none = none := by
  induction L with
  | nil => rfl
  | cons x L ih => exact ih
theorem stK_zero (L : List Int) : L.foldl stK (some 0) = (L.dropWhile (· == 0)).foldl stK (some 0) := by
  induction L with
  | nil => rfl
  | cons x L ih =>
    rw [List.dropWhile_cons]
    by_cases hx : x = 0
    · subst hx; exact ih
    · have : (x == 0) = false := by simpa using hx
      rw [this]; rfl
theorem stK_same {k : Int} (hk : k ≠ 0) (L : List Int) : L.foldl stK (some k) = if L.all (· == k) then some k else none := by
  induction L with
  | nil => rfl
  | cons x L ih =>
    rw [List.foldl_cons, List.all_cons]
    have h1 : (k != 0) = true := by simpa using hk
    by_cases hx : x = k
    · subst hx
      have : stK (some x) x = some x := by simp [stK]
      rw [this, ih]; simp
    · have h2 : (x == k) = false := by simpa using hx
      have : stK (some k) x = none := by simp [stK, hk, hx]
      rw [this, stK_none, h2]; rfl
theorem all_two {L : List Int} {x k : Int} (h : (x :: L).all (· == k) = true) : x = k := by
  rw [List.all_cons, Bool.and_eq_true] at h
  simpa using h.1
theorem kd_same (L : List Int) : resS (L.foldl stK (some 0)) = resI (L.dropWhile (· == 0)) := by
  rw [stK_zero]
  generalize hK : L.dropWhile (· == 0) = K
  rcases K with _ | ⟨x, K⟩
  · rfl
  · have hx : x ≠ 0 := by
      intro h
      subst h
      have := List.head?_dropWhile_not (p := (· == (0 : Int))) (l := L)
      rw [hK] at this
      simp at this
    have h1 : stK (some 0) x = some x := by simp [stK]
    rw [List.foldl_cons, h1, stK_same hx]
    have hR : resI (x :: K) = if (x :: K).all (· == 1) then 1 else if (x :: K).all (· == 2) then 2 else 0 := by
      unfold resI
      rw [if_neg (by simp)]
    rw [hR]
    clear hR
    cases ha : K.all (· == x) with
    | true =>
      rw [if_pos rfl]
      by_cases e1 : x = 1
      · subst e1; rw [if_pos (by rw [List.all_cons, ha]; rfl)]; rfl
      · rw [if_neg (fun h => e1 (all_two h))]
        by_cases e2 : x = 2
        · subst e2; rw [if_pos (by rw [List.all_cons, ha]; rfl)]; rfl
        · rw [if_neg (fun h => e2 (all_two h))]
          simp [resS, e1, e2]
    | false =>
      rw [if_neg (show ¬ (false = true) by simp)]
      have h3 : ∀ k, ¬ (x :: K).all (· == k) = true := by
        intro k h
        obtain rfl := all_two h
        rw [List.all_cons, Bool.and_eq_true, ha] at h
        cases h.2
      rw [if_neg (h3 1), if_neg (h3 2)]
      rfl
theorem all_allN (x : Int) (L : List Int) : allN (sameI x L) L.length = L.all (· == x) := by
  rw [Bool.eq_iff_iff, allN_iff, List.all_eq_true]
  constructor
  · intro h y hy
    obtain ⟨k, hk, rfl⟩ := List.mem_iff_getElem.1 hy
    have := h k hk
    simpa [sameI, List.getD_eq_getElem?_getD, hk] using this
  · intro h k hk
    have := h L[k] (List.getElem_mem hk)
    simpa [sameI, List.getD_eq_getElem?_getD, hk] using this
/-- The kind of a segment. -/
def sgKd (n0 : Nat) (zA : List TAS) (zl : List TLink) (n1 : Nat) (zs : List THop) (n : Nat) : Int :=
  if (wfB n0 zl n1 zs n && coreB zA n0 (segFirst zs n)) = true then resI ((egUp zl n1 zs n).dropWhile (· == 0)) else 0
theorem wfB_n {n0 : Nat} {zl : List TLink} {n1 : Nat} {zs : List THop} {n : Nat} (h : wfB n0 zl n1 zs n = true) : 1 ≤ n ∧ n ≤ 8 := by
  unfold wfB at h
  rw [Bool.and_eq_true] at h
  exact of_decide_eq_true h.1
theorem wfB_first {n0 : Nat} {zl : List TLink} {n1 : Nat} {zs : List THop} {n : Nat} (h : wfB n0 zl n1 zs n = true) : isAsB n0 (segFirst zs n) = true := by
  have hn := wfB_n h
  unfold wfB at h
  simp only [Bool.and_eq_true] at h
  have := (allN_iff _ _).1 h.2.2 0 (by omega)
  simp only [wfI, Bool.and_eq_true] at this
  have e : segFirst zs n = (zs.getD 0 default).nd := by unfold segFirst; rw [if_neg (by omega)]
  rw [e]
  exact this.2.1
set_option maxRecDepth 100000 in
set_option maxHeartbeats 4000000 in
theorem implSgKind (a0 a1 : Option Addr) (n0 c0 n1 c1 B : Nat) (zA : List TAS) (zl : List TLink) (x0 x1 : Int) (a : Option Addr) (n c B' : Nat) (zs : List THop) (w : World) (hA : HasAS w B a0 n0 zA) (hl : HasLink w B a1 n1 zl) (hB : B ≤ w.heap.size) (hn0 : n0 ≤ 1048576) (hn1 : n1 ≤ 1048576) (h : HasHop w B' a n zs) (hB' : B' ≤ w.heap.size) (hn : n ≤ 1048576) :
    Calls Try.prog 13 #[.agg #[.slice a0 n0 c0, .slice a1 n1 c1], .agg #[.int .i64 x0, .int .i64 x1, .slice a n c]] w fun e w' => e = .returned (.int .i64 (sgKd n0 zA zl n1 zs n)) ∧ Mk0 w w' := by
  have M0 := (Mk.alloc w (Obj.cells #[Value.slice a0 n0 c0, Value.slice a1 n1 c1] 35)).new (Obj.cells #[Value.int .i64 x0, Value.int .i64 x1, Value.slice a n c] 39)
  have k0 : ((w.alloc (Obj.cells #[Value.slice a0 n0 c0, Value.slice a1 n1 c1] 35)).alloc (Obj.cells #[Value.int .i64 x0, Value.int .i64 x1, Value.slice a n c] 39)).cell? ⟨w.heap.size, 0, none⟩ = some (.slice a0 n0 c0) := by simp [go_sem]
  have k1 : ((w.alloc (Obj.cells #[Value.slice a0 n0 c0, Value.slice a1 n1 c1] 35)).alloc (Obj.cells #[Value.int .i64 x0, Value.int .i64 x1, Value.slice a n c] 39)).cell? ⟨w.heap.size, 1, none⟩ = some (.slice a1 n1 c1) := by simp [go_sem]
  have j0 : ((w.alloc (Obj.cells #[Value.slice a0 n0 c0, Value.slice a1 n1 c1] 35)).alloc (Obj.cells #[Value.int .i64 x0, Value.int .i64 x1, Value.slice a n c] 39)).cell? ⟨w.heap.size + 1, 0, none⟩ = some (.int .i64 x0) := by simp [go_sem]
  have j1 : ((w.alloc (Obj.cells #[Value.slice a0 n0 c0, Value.slice a1 n1 c1] 35)).alloc (Obj.cells #[Value.int .i64 x0, Value.int .i64 x1, Value.slice a n c] 39)).cell? ⟨w.heap.size + 1, 1, none⟩ = some (.int .i64 x1) := by simp [go_sem]
  have j2 : ((w.alloc (Obj.cells #[Value.slice a0 n0 c0, Value.slice a1 n1 c1] 35)).alloc (Obj.cells #[Value.int .i64 x0, Value.int .i64 x1, Value.slice a n c] 39)).cell? ⟨w.heap.size + 1, 2, none⟩ = some (.slice a n c) := by simp [go_sem]
  obtain ⟨V, hV⟩ : ∃ V, Hid (V = segFirst zs n) := ⟨_, Lib.hid rfl⟩
  have HV := Lib.hid hV.out
  clear hV
  cases hw : wfB n0 zl n1 zs n
  · have HR := Lib.hid (show sgKd n0 zA zl n1 zs n = 0 by unfold sgKd; rw [hw]; rfl)
    have HW := Lib.hid hw
    clear hw
    go_enter Try.func13, Try.ntmps13
    go_wp2_with fail
    refine wp_region_wk (fun w' => Mk0 ((w.alloc (Obj.cells #[Value.slice a0 n0 c0, Value.slice a1 n1 c1] 35)).alloc (Obj.cells #[Value.int .i64 x0, Value.int .i64 x1, Value.slice a n c] 39)) w' ∧ w'.cell? ⟨w.heap.size, 0, none⟩ = some (.slice a0 n0 c0) ∧ w'.cell? ⟨w.heap.size, 1, none⟩ = some (.slice a1 n1 c1) ∧ w'.cell? ⟨w.heap.size + 1, 0, none⟩ = some (.int .i64 x0) ∧ w'.cell? ⟨w.heap.size + 1, 1, none⟩ = some (.int .i64 x1) ∧ w'.cell? ⟨w.heap.size + 1, 2, none⟩ = some (.slice a n c)) (by kernel_rfl) (by kernel_rfl) (⟨Mk.drew1 _, k0, k1, j0, j1, j2⟩) ?_
    change Wk _ _ _ _ 11 0 _
    first | (refine Wk.skip (m := 10) (k := 0) rfl (by rfl) ?_) | (refine Wk.step (m := 10) (k := 0) (v := _) rfl (by rfl) (fun wv hS => by obtain ⟨s0, s1, s2, s3, s4, s5⟩ := hS; go_simp; try with_reducible rfl) ?_)
    try simp only [Act.put, List.getElem_toArray, List.getElem_cons_zero, List.setIfInBounds_toArray, List.set_cons_zero, List.set_cons_succ]
    first | (refine Wk.skip (m := 9) (k := 1) rfl (by rfl) ?_) | (refine Wk.step (m := 9) (k := 1) (v := _) rfl (by rfl) (fun wv hS => by obtain ⟨s0, s1, s2, s3, s4, s5⟩ := hS; go_simp; try with_reducible rfl) ?_)
    try simp only [Act.put, List.getElem_toArray, List.getElem_cons_succ, List.getElem_cons_zero, List.setIfInBounds_toArray, List.set_cons_zero, List.set_cons_succ]
    refine Wk.call (m := 8) (k := 2) (v := .bool false) _ _ rfl (by rfl) (fun wv hS => by obtain ⟨s0, s1, s2, s3, s4, s5⟩ := hS; go_simp; first | done | exact ⟨rfl, rfl⟩ | with_reducible rfl) (fun wv hS => ?_) ?_; · obtain ⟨s0, s1, s2, s3, s4, s5⟩ := hS; refine (implWF a0 a1 n0 c0 n1 c1 B zl x0 x1 a n c B' zs wv (hl.mk (M0.trans s0) hB (.inr (Nat.le_refl _))) (Nat.le_trans hB (M0.trans s0).size) hn0 hn1 (h.mk (M0.trans s0) hB' (.inr (Nat.le_refl _))) (Nat.le_trans hB' (M0.trans s0).size) hn).mono ?_; rintro e w' ⟨he, mm⟩; exact ⟨by rw [he, HW.out], ⟨s0.trans mm, mm.cellAt s1, mm.cellAt s2, mm.cellAt s3, mm.cellAt s4, mm.cellAt s5⟩⟩
    try simp only [Act.put, List.getElem_toArray, List.getElem_cons_succ, List.getElem_cons_zero, List.setIfInBounds_toArray, List.set_cons_zero, List.set_cons_succ]
    first | (refine Wk.skip (m := 7) (k := 3) rfl (by rfl) ?_) | (refine Wk.step (m := 7) (k := 3) (v := _) rfl (by rfl) (fun wv hS => by obtain ⟨s0, s1, s2, s3, s4, s5⟩ := hS; go_simp; try with_reducible rfl) ?_)
    try simp only [Act.put, List.getElem_toArray, List.getElem_cons_succ, List.getElem_cons_zero, List.setIfInBounds_toArray, List.set_cons_zero, List.set_cons_succ]
    first | (refine Wk.skip (m := 6) (k := 4) rfl (by rfl) ?_) | (refine Wk.step (m := 6) (k := 4) (v := _) rfl (by rfl) (fun wv hS => by obtain ⟨s0, s1, s2, s3, s4, s5⟩ := hS; go_simp; try with_reducible rfl) ?_)
    try simp only [Act.put, List.getElem_toArray, List.getElem_cons_succ, List.getElem_cons_zero, List.setIfInBounds_toArray, List.set_cons_zero, List.set_cons_succ]
    first | (refine Wk.skip (m := 5) (k := 5) rfl (by rfl) ?_) | (refine Wk.step (m := 5) (k := 5) (v := _) rfl (by rfl) (fun wv hS => by obtain ⟨s0, s1, s2, s3, s4, s5⟩ := hS; go_simp; try with_reducible rfl) ?_)
    try simp only [Act.put, List.getElem_toArray, List.getElem_cons_succ, List.getElem_cons_zero, List.setIfInBounds_toArray, List.set_cons_zero, List.set_cons_succ]
    first | (refine Wk.skip (m := 4) (k := 6) rfl (by rfl) ?_) | (refine Wk.step (m := 4) (k := 6) (v := _) rfl (by rfl) (fun wv hS => by obtain ⟨s0, s1, s2, s3, s4, s5⟩ := hS; go_simp; try with_reducible rfl) ?_)
    try simp only [Act.put, List.getElem_toArray, List.getElem_cons_succ, List.getElem_cons_zero, List.setIfInBounds_toArray, List.set_cons_zero, List.set_cons_succ]
    refine Wk.skip (m := 3) (k := 7) rfl (by rfl) ?_
    try simp only [Act.put, List.getElem_toArray, List.getElem_cons_succ, List.getElem_cons_zero, List.setIfInBounds_toArray, List.set_cons_zero, List.set_cons_succ]
    refine Wk.skip (m := 2) (k := 8) rfl (by rfl) ?_
    try simp only [Act.put, List.getElem_toArray, List.getElem_cons_succ, List.getElem_cons_zero, List.setIfInBounds_toArray, List.set_cons_zero, List.set_cons_succ]
    first | (refine Wk.skip (m := 1) (k := 9) rfl (by rfl) ?_) | (refine Wk.step (m := 1) (k := 9) (v := _) rfl (by rfl) (fun wv hS => by obtain ⟨s0, s1, s2, s3, s4, s5⟩ := hS; go_simp; try with_reducible rfl) ?_)
    try simp only [Act.put, List.getElem_toArray, List.getElem_cons_succ, List.getElem_cons_zero, List.setIfInBounds_toArray, List.set_cons_zero, List.set_cons_succ]
    first | (refine Wk.skip (m := 0) (k := 10) rfl (by rfl) ?_) | (refine Wk.step (m := 0) (k := 10) (v := _) rfl (by rfl) (fun wv hS => by obtain ⟨s0, s1, s2, s3, s4, s5⟩ := hS; go_simp; try with_reducible rfl) ?_)
    try simp only [Act.put, List.getElem_toArray, List.getElem_cons_succ, List.getElem_cons_zero, List.setIfInBounds_toArray, List.set_cons_zero, List.set_cons_succ]
    refine Wk.done fun wE hE => ?_
    clear k0 k1 j0 j1 j2
    obtain ⟨mE, k0, k1, j0, j1, j2⟩ := hE
    go_wp2_with fail
    go_ret
    exact ⟨retI HR.out.symm, M0.trans mE⟩
  · cases hc : coreB zA n0 (segFirst zs n)
    · have HR := Lib.hid (show sgKd n0 zA zl n1 zs n = 0 by unfold sgKd; rw [hw, hc]; rfl)
      have HW := Lib.hid hw
      have HC := Lib.hid (show coreB zA n0 V = false by rw [HV.out]; exact hc)
      clear hw hc
      go_enter Try.func13, Try.ntmps13
      go_wp2_with fail
      refine wp_region_wk (fun w' => Mk0 ((w.alloc (Obj.cells #[Value.slice a0 n0 c0, Value.slice a1 n1 c1] 35)).alloc (Obj.cells #[Value.int .i64 x0, Value.int .i64 x1, Value.slice a n c] 39)) w' ∧ w'.cell? ⟨w.heap.size, 0, none⟩ = some (.slice a0 n0 c0) ∧ w'.cell? ⟨w.heap.size, 1, none⟩ = some (.slice a1 n1 c1) ∧ w'.cell? ⟨w.heap.size + 1, 0, none⟩ = some (.int .i64 x0) ∧ w'.cell? ⟨w.heap.size + 1, 1, none⟩ = some (.int .i64 x1) ∧ w'.cell? ⟨w.heap.size + 1, 2, none⟩ = some (.slice a n c)) (by kernel_rfl) (by kernel_rfl) (⟨Mk.drew1 _, k0, k1, j0, j1, j2⟩) ?_
      change Wk _ _ _ _ 11 0 _
      first | (refine Wk.skip (m := 10) (k := 0) rfl (by rfl) ?_) | (refine Wk.step (m := 10) (k := 0) (v := _) rfl (by rfl) (fun wv hS => by obtain ⟨s0, s1, s2, s3, s4, s5⟩ := hS; go_simp; try with_reducible rfl) ?_)
      try simp only [Act.put, List.getElem_toArray, List.getElem_cons_zero, List.setIfInBounds_toArray, List.set_cons_zero, List.set_cons_succ]
      first | (refine Wk.skip (m := 9) (k := 1) rfl (by rfl) ?_) | (refine Wk.step (m := 9) (k := 1) (v := _) rfl (by rfl) (fun wv hS => by obtain ⟨s0, s1, s2, s3, s4, s5⟩ := hS; go_simp; try with_reducible rfl) ?_)
      try simp only [Act.put, List.getElem_toArray, List.getElem_cons_succ, List.getElem_cons_zero, List.setIfInBounds_toArray, List.set_cons_zero, List.set_cons_succ]
      refine Wk.call (m := 8) (k := 2) (v := .bool true) _ _ rfl (by rfl) (fun wv hS => by obtain ⟨s0, s1, s2, s3, s4, s5⟩ := hS; go_simp; first | done | exact ⟨rfl, rfl⟩ | with_reducible rfl) (fun wv hS => ?_) ?_; · obtain ⟨s0, s1, s2, s3, s4, s5⟩ := hS; refine (implWF a0 a1 n0 c0 n1 c1 B zl x0 x1 a n c B' zs wv (hl.mk (M0.trans s0) hB (.inr (Nat.le_refl _))) (Nat.le_trans hB (M0.trans s0).size) hn0 hn1 (h.mk (M0.trans s0) hB' (.inr (Nat.le_refl _))) (Nat.le_trans hB' (M0.trans s0).size) hn).mono ?_; rintro e w' ⟨he, mm⟩; exact ⟨by rw [he, HW.out], ⟨s0.trans mm, mm.cellAt s1, mm.cellAt s2, mm.cellAt s3, mm.cellAt s4, mm.cellAt s5⟩⟩
      try simp only [Act.put, List.getElem_toArray, List.getElem_cons_succ, List.getElem_cons_zero, List.setIfInBounds_toArray, List.set_cons_zero, List.set_cons_succ]
      first | (refine Wk.skip (m := 7) (k := 3) rfl (by rfl) ?_) | (refine Wk.step (m := 7) (k := 3) (v := _) rfl (by rfl) (fun wv hS => by obtain ⟨s0, s1, s2, s3, s4, s5⟩ := hS; go_simp; try with_reducible rfl) ?_)
      try simp only [Act.put, List.getElem_toArray, List.getElem_cons_succ, List.getElem_cons_zero, List.setIfInBounds_toArray, List.set_cons_zero, List.set_cons_succ]
      first | (refine Wk.skip (m := 6) (k := 4) rfl (by rfl) ?_) | (refine Wk.step (m := 6) (k := 4) (v := _) rfl (by rfl) (fun wv hS => by obtain ⟨s0, s1, s2, s3, s4, s5⟩ := hS; go_simp; try with_reducible rfl) ?_)
      try simp only [Act.put, List.getElem_toArray, List.getElem_cons_succ, List.getElem_cons_zero, List.setIfInBounds_toArray, List.set_cons_zero, List.set_cons_succ]
      first | (refine Wk.skip (m := 5) (k := 5) rfl (by rfl) ?_) | (refine Wk.step (m := 5) (k := 5) (v := _) rfl (by rfl) (fun wv hS => by obtain ⟨s0, s1, s2, s3, s4, s5⟩ := hS; go_simp; try with_reducible rfl) ?_)
      try simp only [Act.put, List.getElem_toArray, List.getElem_cons_succ, List.getElem_cons_zero, List.setIfInBounds_toArray, List.set_cons_zero, List.set_cons_succ]
      first | (refine Wk.skip (m := 4) (k := 6) rfl (by rfl) ?_) | (refine Wk.step (m := 4) (k := 6) (v := _) rfl (by rfl) (fun wv hS => by obtain ⟨s0, s1, s2, s3, s4, s5⟩ := hS; go_simp; try with_reducible rfl) ?_)
      try simp only [Act.put, List.getElem_toArray, List.getElem_cons_succ, List.getElem_cons_zero, List.setIfInBounds_toArray, List.set_cons_zero, List.set_cons_succ]
      refine Wk.call (m := 3) (k := 7) (v := .int .i64 V) _ _ rfl (by rfl) (fun wv hS => by obtain ⟨s0, s1, s2, s3, s4, s5⟩ := hS; go_simp; first | done | exact ⟨rfl, rfl⟩ | with_reducible rfl) (fun wv hS => ?_) ?_; · obtain ⟨s0, s1, s2, s3, s4, s5⟩ := hS; refine (implFirst x0 x1 a n c B' zs wv (h.mk (M0.trans s0) hB' (.inr (Nat.le_refl _))) (Nat.le_trans hB' (M0.trans s0).size) hn).mono ?_; rintro e w' ⟨he, mm⟩; exact ⟨by rw [he, ← HV.out], ⟨s0.trans mm, mm.cellAt s1, mm.cellAt s2, mm.cellAt s3, mm.cellAt s4, mm.cellAt s5⟩⟩
      try simp only [Act.put, List.getElem_toArray, List.getElem_cons_succ, List.getElem_cons_zero, List.setIfInBounds_toArray, List.set_cons_zero, List.set_cons_succ]
      refine Wk.call (m := 2) (k := 8) (v := .bool false) _ _ rfl (by rfl) (fun wv hS => by obtain ⟨s0, s1, s2, s3, s4, s5⟩ := hS; go_simp; first | done | exact ⟨rfl, rfl⟩ | with_reducible rfl) (fun wv hS => ?_) ?_; · obtain ⟨s0, s1, s2, s3, s4, s5⟩ := hS; refine (implIsCore a0 a1 n0 c0 n1 c1 B zA V wv (hA.mk (M0.trans s0) hB (.inr (Nat.le_refl _))) (Nat.le_trans hB (M0.trans s0).size) hn0).mono ?_; rintro e w' ⟨he, mm⟩; exact ⟨by rw [he, HC.out], ⟨s0.trans mm, mm.cellAt s1, mm.cellAt s2, mm.cellAt s3, mm.cellAt s4, mm.cellAt s5⟩⟩
      try simp only [Act.put, List.getElem_toArray, List.getElem_cons_succ, List.getElem_cons_zero, List.setIfInBounds_toArray, List.set_cons_zero, List.set_cons_succ]
      first | (refine Wk.skip (m := 1) (k := 9) rfl (by rfl) ?_) | (refine Wk.step (m := 1) (k := 9) (v := _) rfl (by rfl) (fun wv hS => by obtain ⟨s0, s1, s2, s3, s4, s5⟩ := hS; go_simp; try with_reducible rfl) ?_)
      try simp only [Act.put, List.getElem_toArray, List.getElem_cons_succ, List.getElem_cons_zero, List.setIfInBounds_toArray, List.set_cons_zero, List.set_cons_succ]
      first | (refine Wk.skip (m := 0) (k := 10) rfl (by rfl) ?_) | (refine Wk.step (m := 0) (k := 10) (v := _) rfl (by rfl) (fun wv hS => by obtain ⟨s0, s1, s2, s3, s4, s5⟩ := hS; go_simp; try with_reducible rfl) ?_)
      try simp only [Act.put, List.getElem_toArray, List.getElem_cons_succ, List.getElem_cons_zero, List.setIfInBounds_toArray, List.set_cons_zero, List.set_cons_succ]
      refine Wk.done fun wE hE => ?_
      clear k0 k1 j0 j1 j2
      obtain ⟨mE, k0, k1, j0, j1, j2⟩ := hE
      go_wp2_with fail
      go_ret
      exact ⟨retI HR.out.symm, M0.trans mE⟩
    · have HR := Lib.hid (show sgKd n0 zA zl n1 zs n = resI ((egUp zl n1 zs n).dropWhile (· == 0)) by unfold sgKd; rw [hw, hc]; rfl)
      have hnn := wfB_n hw
      have HW := Lib.hid hw
      have HC := Lib.hid (show coreB zA n0 V = true by rw [HV.out]; exact hc)
      clear hw hc
      go_enter Try.func13, Try.ntmps13
      go_wp2_with fail
      refine wp_region_wk (fun w' => Mk0 ((w.alloc (Obj.cells #[Value.slice a0 n0 c0, Value.slice a1 n1 c1] 35)).alloc (Obj.cells #[Value.int .i64 x0, Value.int .i64 x1, Value.slice a n c] 39)) w' ∧ w'.cell? ⟨w.heap.size, 0, none⟩ = some (.slice a0 n0 c0) ∧ w'.cell? ⟨w.heap.size, 1, none⟩ = some (.slice a1 n1 c1) ∧ w'.cell? ⟨w.heap.size + 1, 0, none⟩ = some (.int .i64 x0) ∧ w'.cell? ⟨w.heap.size + 1, 1, none⟩ = some (.int .i64 x1) ∧ w'.cell? ⟨w.heap.size + 1, 2, none⟩ = some (.slice a n c)) (by kernel_rfl) (by kernel_rfl) (⟨Mk.drew1 _, k0, k1, j0, j1, j2⟩) ?_
      change Wk _ _ _ _ 11 0 _
      first | (refine Wk.skip (m := 10) (k := 0) rfl (by rfl) ?_) | (refine Wk.step (m := 10) (k := 0) (v := _) rfl (by rfl) (fun wv hS => by obtain ⟨s0, s1, s2, s3, s4, s5⟩ := hS; go_simp; try with_reducible rfl) ?_)
      try simp only [Act.put, List.getElem_toArray, List.getElem_cons_zero, List.setIfInBounds_toArray, List.set_cons_zero, List.set_cons_succ]
      first | (refine Wk.skip (m := 9) (k := 1) rfl (by rfl) ?_) | (refine Wk.step (m := 9) (k := 1) (v := _) rfl (by rfl) (fun wv hS => by obtain ⟨s0, s1, s2, s3, s4, s5⟩ := hS; go_simp; try with_reducible rfl) ?_)
      try simp only [Act.put, List.getElem_toArray, List.getElem_cons_succ, List.getElem_cons_zero, List.setIfInBounds_toArray, List.set_cons_zero, List.set_cons_succ]
      refine Wk.call (m := 8) (k := 2) (v := .bool true) _ _ rfl (by rfl) (fun wv hS => by obtain ⟨s0, s1, s2, s3, s4, s5⟩ := hS; go_simp; first | done | exact ⟨rfl, rfl⟩ | with_reducible rfl) (fun wv hS => ?_) ?_; · obtain ⟨s0, s1, s2, s3, s4, s5⟩ := hS; refine (implWF a0 a1 n0 c0 n1 c1 B zl x0 x1 a n c B' zs wv (hl.mk (M0.trans s0) hB (.inr (Nat.le_refl _))) (Nat.le_trans hB (M0.trans s0).size) hn0 hn1 (h.mk (M0.trans s0) hB' (.inr (Nat.le_refl _))) (Nat.le_trans hB' (M0.trans s0).size) hn).mono ?_; rintro e w' ⟨he, mm⟩; exact ⟨by rw [he, HW.out], ⟨s0.trans mm, mm.cellAt s1, mm.cellAt s2, mm.cellAt s3, mm.cellAt s4, mm.cellAt s5⟩⟩
      try simp only [Act.put, List.getElem_toArray, List.getElem_cons_succ, List.getElem_cons_zero, List.setIfInBounds_toArray, List.set_cons_zero, List.set_cons_succ]
      first | (refine Wk.skip (m := 7) (k := 3) rfl (by rfl) ?_) | (refine Wk.step (m := 7) (k := 3) (v := _) rfl (by rfl) (fun wv hS => by obtain ⟨s0, s1, s2, s3, s4, s5⟩ := hS; go_simp; try with_reducible rfl) ?_)
      try simp only [Act.put, List.getElem_toArray, List.getElem_cons_succ, List.getElem_cons_zero, List.setIfInBounds_toArray, List.set_cons_zero, List.set_cons_succ]
      first | (refine Wk.skip (m := 6) (k := 4) rfl (by rfl) ?_) | (refine Wk.step (m := 6) (k := 4) (v := _) rfl (by rfl) (fun wv hS => by obtain ⟨s0, s1, s2, s3, s4, s5⟩ := hS; go_simp; try with_reducible rfl) ?_)
      try simp only [Act.put, List.getElem_toArray, List.getElem_cons_succ, List.getElem_cons_zero, List.setIfInBounds_toArray, List.set_cons_zero, List.set_cons_succ]
      first | (refine Wk.skip (m := 5) (k := 5) rfl (by rfl) ?_) | (refine Wk.step (m := 5) (k := 5) (v := _) rfl (by rfl) (fun wv hS => by obtain ⟨s0, s1, s2, s3, s4, s5⟩ := hS; go_simp; try with_reducible rfl) ?_)
      try simp only [Act.put, List.getElem_toArray, List.getElem_cons_succ, List.getElem_cons_zero, List.setIfInBounds_toArray, List.set_cons_zero, List.set_cons_succ]
      first | (refine Wk.skip (m := 4) (k := 6) rfl (by rfl) ?_) | (refine Wk.step (m := 4) (k := 6) (v := _) rfl (by rfl) (fun wv hS => by obtain ⟨s0, s1, s2, s3, s4, s5⟩ := hS; go_simp; try with_reducible rfl) ?_)
      try simp only [Act.put, List.getElem_toArray, List.getElem_cons_succ, List.getElem_cons_zero, List.setIfInBounds_toArray, List.set_cons_zero, List.set_cons_succ]
      refine Wk.call (m := 3) (k := 7) (v := .int .i64 V) _ _ rfl (by rfl) (fun wv hS => by obtain ⟨s0, s1, s2, s3, s4, s5⟩ := hS; go_simp; first | done | exact ⟨rfl, rfl⟩ | with_reducible rfl) (fun wv hS => ?_) ?_; · obtain ⟨s0, s1, s2, s3, s4, s5⟩ := hS; refine (implFirst x0 x1 a n c B' zs wv (h.mk (M0.trans s0) hB' (.inr (Nat.le_refl _))) (Nat.le_trans hB' (M0.trans s0).size) hn).mono ?_; rintro e w' ⟨he, mm⟩; exact ⟨by rw [he, ← HV.out], ⟨s0.trans mm, mm.cellAt s1, mm.cellAt s2, mm.cellAt s3, mm.cellAt s4, mm.cellAt s5⟩⟩
      try simp only [Act.put, List.getElem_toArray, List.getElem_cons_succ, List.getElem_cons_zero, List.setIfInBounds_toArray, List.set_cons_zero, List.set_cons_succ]
      refine Wk.call (m := 2) (k := 8) (v := .bool true) _ _ rfl (by rfl) (fun wv hS => by obtain ⟨s0, s1, s2, s3, s4, s5⟩ := hS; go_simp; first | done | exact ⟨rfl, rfl⟩ | with_reducible rfl) (fun wv hS => ?_) ?_; · obtain ⟨s0, s1, s2, s3, s4, s5⟩ := hS; refine (implIsCore a0 a1 n0 c0 n1 c1 B zA V wv (hA.mk (M0.trans s0) hB (.inr (Nat.le_refl _))) (Nat.le_trans hB (M0.trans s0).size) hn0).mono ?_; rintro e w' ⟨he, mm⟩; exact ⟨by rw [he, HC.out], ⟨s0.trans mm, mm.cellAt s1, mm.cellAt s2, mm.cellAt s3, mm.cellAt s4, mm.cellAt s5⟩⟩
      try simp only [Act.put, List.getElem_toArray, List.getElem_cons_succ, List.getElem_cons_zero, List.setIfInBounds_toArray, List.set_cons_zero, List.set_cons_succ]
      first | (refine Wk.skip (m := 1) (k := 9) rfl (by rfl) ?_) | (refine Wk.step (m := 1) (k := 9) (v := _) rfl (by rfl) (fun wv hS => by obtain ⟨s0, s1, s2, s3, s4, s5⟩ := hS; go_simp; try with_reducible rfl) ?_)
      try simp only [Act.put, List.getElem_toArray, List.getElem_cons_succ, List.getElem_cons_zero, List.setIfInBounds_toArray, List.set_cons_zero, List.set_cons_succ]
      first | (refine Wk.skip (m := 0) (k := 10) rfl (by rfl) ?_) | (refine Wk.step (m := 0) (k := 10) (v := _) rfl (by rfl) (fun wv hS => by obtain ⟨s0, s1, s2, s3, s4, s5⟩ := hS; go_simp; try with_reducible rfl) ?_)
      try simp only [Act.put, List.getElem_toArray, List.getElem_cons_succ, List.getElem_cons_zero, List.setIfInBounds_toArray, List.set_cons_zero, List.set_cons_succ]
      refine Wk.done fun wE hE => ?_
      clear k0 k1 j0 j1 j2
      obtain ⟨mE, k0, k1, j0, j1, j2⟩ := hE
      have M1 := M0.trans mE
      go_wp2_with fail
      refine (implEgKinds a0 a1 n0 c0 n1 c1 B zl x0 x1 a n c B' zs _ (hl.mk M1 hB (.inr (Nat.le_refl _))) (Nat.le_trans hB M1.size) hn1 (h.mk M1 hB' (.inr (Nat.le_refl _))) (Nat.le_trans hB' M1.size) hn).mono ?_
      rintro e w2 ⟨A, N, C, rfl, hcC, oo, m2⟩
      have M2 := M1.trans m2
      have hul := egUp_len zl n1 zs n
      have hN := oo.1
      have hN8 : N ≤ 8 := by omega
      clear hN hul
      obtain ⟨L, hL⟩ : ∃ L, Hid (L = egUp zl n1 zs n) := ⟨_, Lib.hid rfl⟩
      rw [← hL.out] at oo HR
      go_wp2_with fail
      refine (implDrop 0 A N C w2.heap.size L _ oo.has (by omega) hcC).mono ?_
      rintro e w3 ⟨A2, N2, C2, rfl, rfl, h2, hnc2⟩
      obtain ⟨K, hK⟩ : ∃ K, Hid (K = L.dropWhile (· == 0)) := ⟨_, Lib.hid rfl⟩
      rw [← hK.out] at h2 HR
      have hN2 := h2.1
      have hN28 : N2 ≤ 8 := by have h1 := (List.dropWhile_sublist (· == (0 : Int)) (l := L)).length_le; rw [← hK.out] at h1; have h3 := oo.1; omega
      rcases Nat.eq_zero_or_pos N2 with h0 | h0
      · subst h0
        have HE := Lib.hid (show resI K = 0 by unfold resI; rw [hN2]; rfl)
        clear hN2
        go_wp2_with fail
        go_ret
        exact ⟨retI (by rw [HR.out, HE.out]), M2⟩
      · have g0 : ((N2 : Int) == 0) = false := by simp; omega
        have HK := Lib.hid hN2
        clear hN2
        cases h1 : K.all (· == 1)
        · cases h3 : K.all (· == 2)
          · have HA1 := Lib.hid (show allN (sameI 1 K) N2 = false by rw [← HK.out, all_allN]; exact h1)
            have HA2 := Lib.hid (show allN (sameI 2 K) N2 = false by rw [← HK.out, all_allN]; exact h3)
            have HE := Lib.hid (show resI K = 0 by unfold resI; rw [if_neg (by have := HK.out; omega), h1, h3]; rfl)
            clear h1 h3
            go_wp2_with fail
            refine (implAreAll 1 A2 N2 C2 w2.heap.size K _ h2 (by omega)).mono ?_
            rintro e w4 ⟨he, rfl⟩
            rw [HA1.out] at he
            subst he
            go_wp2_with fail
            refine (implAreAll 2 A2 N2 C2 w2.heap.size K _ h2 (by omega)).mono ?_
            rintro e w4 ⟨he, rfl⟩
            rw [HA2.out] at he
            subst he
            go_wp2_with fail
            go_ret
            exact ⟨retI (by rw [HR.out, HE.out]), M2⟩
          · have HA1 := Lib.hid (show allN (sameI 1 K) N2 = false by rw [← HK.out, all_allN]; exact h1)
            have HA2 := Lib.hid (show allN (sameI 2 K) N2 = true by rw [← HK.out, all_allN]; exact h3)
            have HE := Lib.hid (show resI K = 2 by unfold resI; rw [if_neg (by have := HK.out; omega), h1, h3]; rfl)
            clear h1 h3
            go_wp2_with fail
            refine (implAreAll 1 A2 N2 C2 w2.heap.size K _ h2 (by omega)).mono ?_
            rintro e w4 ⟨he, rfl⟩
            rw [HA1.out] at he
            subst he
            go_wp2_with fail
            refine (implAreAll 2 A2 N2 C2 w2.heap.size K _ h2 (by omega)).mono ?_
            rintro e w4 ⟨he, rfl⟩
            rw [HA2.out] at he
            subst he
            go_wp2_with fail
            go_ret
            exact ⟨retI (by rw [HR.out, HE.out]), M2⟩
        · have HA1 := Lib.hid (show allN (sameI 1 K) N2 = true by rw [← HK.out, all_allN]; exact h1)
          have HE := Lib.hid (show resI K = 1 by unfold resI; rw [if_neg (by have := HK.out; omega), h1]; rfl)
          clear h1
          go_wp2_with fail
          refine (implAreAll 1 A2 N2 C2 w2.heap.size K _ h2 (by omega)).mono ?_
          rintro e w4 ⟨he, rfl⟩
          rw [HA1.out] at he
          subst he
          go_wp2_with fail
          go_ret
          exact ⟨retI (by rw [HR.out, HE.out]), M2⟩

end Go.Proofs.Ytmpanhbjppnpbaa
