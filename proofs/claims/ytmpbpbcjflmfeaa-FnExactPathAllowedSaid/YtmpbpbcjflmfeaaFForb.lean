
/- The first step that is forbidden; paths that are allowed; both sides. -/
import Derived.Test.YtmpbpbcjflmfeaaStepOk
import Derived.Test.YtmpbpbcjflmfeaaStepI
import Derived.Test.YtmpbpbcjflmfeaaStepS
namespace Go.Proofs.Ytmpbpbcjflmfeaa
open Go.ChangeShapes Go.WideShapes Go.ChangeAt Go.RowKit
set_option linter.unusedVariables false
/-- The first that p does not let pass, among those from n - m on; -1 if there is none. -/
def firstNot {α : Type} [Inhabited α] (p : α → Bool) (l : List α) (n : Nat) : Nat → Int
  | 0 => -1
  | m + 1 => if p (l.getD (n - (m + 1)) default) = true then firstNot p l n m else ((n - (m + 1) : Nat) : Int)
theorem firstNot_stop {α : Type} [Inhabited α] {p : α → Bool} {l : List α} {n k : Nat} (hk : k < n) (h : p (l.getD k default) = false) : firstNot p l n (n - k) = (k : Int) := by
  obtain ⟨m, hm⟩ : ∃ m, n - k = m + 1 := ⟨n - k - 1, by omega⟩
  rw [hm, firstNot, show n - (m + 1) = k by omega, if_neg (by rw [h]; decide)]
theorem firstNot_go {α : Type} [Inhabited α] {p : α → Bool} {l : List α} {n k : Nat} (hk : k < n) (h : p (l.getD k default) = true) : firstNot p l n (n - k) = firstNot p l n (n - (k + 1)) := by
  obtain ⟨m, hm⟩ : ∃ m, n - k = m + 1 := ⟨n - k - 1, by omega⟩
  rw [hm, firstNot, show n - (m + 1) = k by omega, if_pos h, show n - (k + 1) = m by omega]
theorem firstNot_or {α : Type} [Inhabited α] (p : α → Bool) (l : List α) (n : Nat) : ∀ m, firstNot p l n m = -1 ∨ 0 ≤ firstNot p l n m
  | 0 => .inl rfl
  | m + 1 => by
    rw [firstNot]
    split
    · exact firstNot_or p l n m
    · exact .inr (by omega)
def ffV (zs : List TLink) (n1 : Nat) (ps : List TPathPart) (n : Nat) : Int := firstNot (stepOkB zs n1) (pathSt ps n) (pathSt ps n).length (pathSt ps n).length
set_option maxRecDepth 100000 in
set_option maxHeartbeats 4000000 in
theorem specFForb (a0 a1 : Option Addr) (n0 c0 n1 c1 B' : Nat) (zs : List TLink) (a : Option Addr) (n c B : Nat) (ps : List TPathPart) (w : World) (hl : HasLink w B' a1 n1 zs) (hB' : B' ≤ w.heap.size) (hn1 : n1 ≤ 1048576) (h : HasPathPart w B a n ps) (hB : B ≤ w.heap.size) (hn : szPathPart ps n ≤ 1048576) :
    Calls Try.prog 36 #[.agg #[.slice a0 n0 c0, .slice a1 n1 c1], .agg #[.slice a n c]] w fun e w' => e = .returned (.int .i64 (ffV zs n1 ps n)) ∧ Mk0 w w' := by
  have M0 := (Mk.alloc w (Obj.cells #[Value.slice a0 n0 c0, Value.slice a1 n1 c1] 51)).new (Obj.cells #[Value.slice a n c] 30)
  have k0 : ((w.alloc (Obj.cells #[Value.slice a0 n0 c0, Value.slice a1 n1 c1] 51)).alloc (Obj.cells #[Value.slice a n c] 30)).cell? ⟨w.heap.size, 0, none⟩ = some (.slice a0 n0 c0) := by simp [go_sem]
  have k1 : ((w.alloc (Obj.cells #[Value.slice a0 n0 c0, Value.slice a1 n1 c1] 51)).alloc (Obj.cells #[Value.slice a n c] 30)).cell? ⟨w.heap.size, 1, none⟩ = some (.slice a1 n1 c1) := by simp [go_sem]
  go_enter Try.func36, Try.ntmps36
  go_wp2_with fail
  refine (specPathSteps a n c B ps _ (h.mk M0 hB (.inr (Nat.le_refl _))) (Nat.le_trans hB M0.size) hn).mono ?_
  rintro e w2 ⟨A, N, cc, rfl, hcc, oo, m2⟩
  replace k0 := m2.cellAt k0
  replace k1 := m2.cellAt k1
  have M2 := M0.trans m2
  have hNle : N ≤ 1048576 := by have := pathSt_le ps n; have := oo.1; omega
  have HR := Lib.hid (show ffV zs n1 ps n = firstNot (stepOkB zs n1) (pathSt ps n) N N by unfold ffV; rw [oo.1])
  have HN := Lib.hid oo.1
  go_wp2_with fail
  go_loopw [4, 6] (fun r i wr => r = .int .i64 0 ∧ ∃ k : Nat, k ≤ N ∧ i = .int .i64 k ∧ Hid (firstNot (stepOkB zs n1) (pathSt ps n) N N = firstNot (stepOkB zs n1) (pathSt ps n) N (N - k)) ∧ Mk0 w2 wr) (fun _ i _ => N - (intOf i).toNat)
  case atStart => exact ⟨rfl, 0, Nat.zero_le _, rfl, rfl, Mk.refl _ _ _⟩
  case round =>
    obtain ⟨rfl, k, hk, rfl, hS, hM⟩ := hrel
    have hM' := M2.trans hM
    replace k0 := hM.cellAt k0
    replace k1 := hM.cellAt k1
    by_cases hlt : k < N
    · obtain ⟨b, off, y, rfl, hb, hx, c0', c1', c2'⟩ := HasStep.at _ _ _ _ _ _ (oo.has.mk hM (Nat.le_refl _) (.inr (Nat.le_refl _))) hlt
      have hbr := World.block_lt_of_cell? _ _ c0'
      simp only at hbr
      have hbq := World.block_lt_of_cell? _ _ k0
      simp only at hbq
      have i1 : (0 : Int) ≤ (k : Int) := by omega
      have i2 : (k : Int) < (N : Int) := by omega
      cases hr : stepOkB zs n1 y
      · have HE := Lib.hid (show firstNot (stepOkB zs n1) (pathSt ps n) N N = (k : Int) by rw [hS.out]; exact firstNot_stop hlt (by rw [← hx.out]; exact hr))
        have HK := Lib.hid hr
        clear hr
        go_wp2_with fail
        refine wp_region_wk (fun w' => Mk0 wr w' ∧ w'.cell? ⟨w.heap.size, 0, none⟩ = some (.slice a0 n0 c0) ∧ w'.cell? ⟨w.heap.size, 1, none⟩ = some (.slice a1 n1 c1) ∧ w'.cell? ⟨b, off + k * 3, none⟩ = some (.int .i64 y.nd) ∧ w'.cell? ⟨b, off + k * 3 + 1, none⟩ = some (.int .i64 y.ing) ∧ w'.cell? ⟨b, off + k * 3 + 2, none⟩ = some (.int .i64 y.eg)) (by kernel_rfl) (by kernel_rfl) (⟨Mk.drew1 _, k0, k1, c0', c1', c2'⟩) ?_
        change Wk _ _ _ _ 7 0 _
        first | (refine Wk.skip (m := 6) (k := 0) rfl (by rfl) ?_) | (refine Wk.step (m := 6) (k := 0) (v := _) rfl (by rfl) (fun wv hS => by obtain ⟨s0, s1, s2, s3, s4, s5⟩ := hS; go_simp; try with_reducible rfl) ?_)
        try simp only [Act.put, List.getElem_toArray, List.getElem_cons_zero, List.setIfInBounds_toArray, List.set_cons_zero, List.set_cons_succ]
        first | (refine Wk.skip (m := 5) (k := 1) rfl (by rfl) ?_) | (refine Wk.step (m := 5) (k := 1) (v := _) rfl (by rfl) (fun wv hS => by obtain ⟨s0, s1, s2, s3, s4, s5⟩ := hS; go_simp; try with_reducible rfl) ?_)
        try simp only [Act.put, List.getElem_toArray, List.getElem_cons_succ, List.getElem_cons_zero, List.setIfInBounds_toArray, List.set_cons_zero, List.set_cons_succ]
        first | (refine Wk.skip (m := 4) (k := 2) rfl (by rfl) ?_) | (refine Wk.step (m := 4) (k := 2) (v := _) rfl (by rfl) (fun wv hS => by obtain ⟨s0, s1, s2, s3, s4, s5⟩ := hS; go_simp; try with_reducible rfl) ?_)
        try simp only [Act.put, List.getElem_toArray, List.getElem_cons_succ, List.getElem_cons_zero, List.setIfInBounds_toArray, List.set_cons_zero, List.set_cons_succ]
        first | (refine Wk.skip (m := 3) (k := 3) rfl (by rfl) ?_) | (refine Wk.step (m := 3) (k := 3) (v := _) rfl (by rfl) (fun wv hS => by obtain ⟨s0, s1, s2, s3, s4, s5⟩ := hS; go_simp; try with_reducible rfl) ?_)
        try simp only [Act.put, List.getElem_toArray, List.getElem_cons_succ, List.getElem_cons_zero, List.setIfInBounds_toArray, List.set_cons_zero, List.set_cons_succ]
        first | (refine Wk.skip (m := 2) (k := 4) rfl (by rfl) ?_) | (refine Wk.step (m := 2) (k := 4) (v := _) rfl (by rfl) (fun wv hS => by obtain ⟨s0, s1, s2, s3, s4, s5⟩ := hS; go_simp; try with_reducible rfl) ?_)
        try simp only [Act.put, List.getElem_toArray, List.getElem_cons_succ, List.getElem_cons_zero, List.setIfInBounds_toArray, List.set_cons_zero, List.set_cons_succ]
        refine Wk.call (m := 1) (k := 5) (v := .bool false) _ _ rfl (by rfl) (fun wv hS => by obtain ⟨s0, s1, s2, s3, s4, s5⟩ := hS; go_simp; first | done | exact ⟨rfl, rfl⟩ | with_reducible rfl) (fun wv hS => ?_) ?_; · obtain ⟨s0, s1, s2, s3, s4, s5⟩ := hS; refine (specStepOk a0 a1 n0 c0 n1 c1 B' zs y wv (hl.mk (hM'.trans s0) hB' (.inr (Nat.le_refl _))) (Nat.le_trans hB' (hM'.trans s0).size) hn1).mono ?_; rintro e w' ⟨rfl, mm⟩; exact ⟨by rw [HK.out], s0.trans mm, mm.cellAt s1, mm.cellAt s2, mm.cellAt s3, mm.cellAt s4, mm.cellAt s5⟩
        try simp only [Act.put, List.getElem_toArray, List.getElem_cons_succ, List.getElem_cons_zero, List.setIfInBounds_toArray, List.set_cons_zero, List.set_cons_succ]
        first | (refine Wk.skip (m := 0) (k := 6) rfl (by rfl) ?_) | (refine Wk.step (m := 0) (k := 6) (v := _) rfl (by rfl) (fun wv hS => by obtain ⟨s0, s1, s2, s3, s4, s5⟩ := hS; go_simp; try with_reducible rfl) ?_)
        try simp only [Act.put, List.getElem_toArray, List.getElem_cons_succ, List.getElem_cons_zero, List.setIfInBounds_toArray, List.set_cons_zero, List.set_cons_succ]
        refine Wk.done fun wE hE => ?_
        obtain ⟨mE, k0, k1, c0', c1', c2'⟩ := hE
        go_wp2_with fail
        go_ret
        exact ⟨retI (by rw [HR.out, HE.out]), hM'.trans mE⟩
      · have HE := Lib.hid (show firstNot (stepOkB zs n1) (pathSt ps n) N N = firstNot (stepOkB zs n1) (pathSt ps n) N (N - (k + 1)) by rw [hS.out]; exact firstNot_go hlt (by rw [← hx.out]; exact hr))
        have HK := Lib.hid hr
        clear hr
        go_wp2_with fail
        refine wp_region_wk (fun w' => Mk0 wr w' ∧ w'.cell? ⟨w.heap.size, 0, none⟩ = some (.slice a0 n0 c0) ∧ w'.cell? ⟨w.heap.size, 1, none⟩ = some (.slice a1 n1 c1) ∧ w'.cell? ⟨b, off + k * 3, none⟩ = some (.int .i64 y.nd) ∧ w'.cell? ⟨b, off + k * 3 + 1, none⟩ = some (.int .i64 y.ing) ∧ w'.cell? ⟨b, off + k * 3 + 2, none⟩ = some (.int .i64 y.eg)) (by kernel_rfl) (by kernel_rfl) (⟨Mk.drew1 _, k0, k1, c0', c1', c2'⟩) ?_
        change Wk _ _ _ _ 7 0 _
        first | (refine Wk.skip (m := 6) (k := 0) rfl (by rfl) ?_) | (refine Wk.step (m := 6) (k := 0) (v := _) rfl (by rfl) (fun wv hS => by obtain ⟨s0, s1, s2, s3, s4, s5⟩ := hS; go_simp; try with_reducible rfl) ?_)
        try simp only [Act.put, List.getElem_toArray, List.getElem_cons_zero, List.setIfInBounds_toArray, List.set_cons_zero, List.set_cons_succ]
        first | (refine Wk.skip (m := 5) (k := 1) rfl (by rfl) ?_) | (refine Wk.step (m := 5) (k := 1) (v := _) rfl (by rfl) (fun wv hS => by obtain ⟨s0, s1, s2, s3, s4, s5⟩ := hS; go_simp; try with_reducible rfl) ?_)
        try simp only [Act.put, List.getElem_toArray, List.getElem_cons_succ, List.getElem_cons_zero, List.setIfInBounds_toArray, List.set_cons_zero, List.set_cons_succ]
        first | (refine Wk.skip (m := 4) (k := 2) rfl (by rfl) ?_) | (refine Wk.step (m := 4) (k := 2) (v := _) rfl (by rfl) (fun wv hS => by obtain ⟨s0, s1, s2, s3, s4, s5⟩ := hS; go_simp; try with_reducible rfl) ?_)
        try simp only [Act.put, List.getElem_toArray, List.getElem_cons_succ, List.getElem_cons_zero, List.setIfInBounds_toArray, List.set_cons_zero, List.set_cons_succ]
        first | (refine Wk.skip (m := 3) (k := 3) rfl (by rfl) ?_) | (refine Wk.step (m := 3) (k := 3) (v := _) rfl (by rfl) (fun wv hS => by obtain ⟨s0, s1, s2, s3, s4, s5⟩ := hS; go_simp; try with_reducible rfl) ?_)
        try simp only [Act.put, List.getElem_toArray, List.getElem_cons_succ, List.getElem_cons_zero, List.setIfInBounds_toArray, List.set_cons_zero, List.set_cons_succ]
        first | (refine Wk.skip (m := 2) (k := 4) rfl (by rfl) ?_) | (refine Wk.step (m := 2) (k := 4) (v := _) rfl (by rfl) (fun wv hS => by obtain ⟨s0, s1, s2, s3, s4, s5⟩ := hS; go_simp; try with_reducible rfl) ?_)
        try simp only [Act.put, List.getElem_toArray, List.getElem_cons_succ, List.getElem_cons_zero, List.setIfInBounds_toArray, List.set_cons_zero, List.set_cons_succ]
        refine Wk.call (m := 1) (k := 5) (v := .bool true) _ _ rfl (by rfl) (fun wv hS => by obtain ⟨s0, s1, s2, s3, s4, s5⟩ := hS; go_simp; first | done | exact ⟨rfl, rfl⟩ | with_reducible rfl) (fun wv hS => ?_) ?_; · obtain ⟨s0, s1, s2, s3, s4, s5⟩ := hS; refine (specStepOk a0 a1 n0 c0 n1 c1 B' zs y wv (hl.mk (hM'.trans s0) hB' (.inr (Nat.le_refl _))) (Nat.le_trans hB' (hM'.trans s0).size) hn1).mono ?_; rintro e w' ⟨rfl, mm⟩; exact ⟨by rw [HK.out], s0.trans mm, mm.cellAt s1, mm.cellAt s2, mm.cellAt s3, mm.cellAt s4, mm.cellAt s5⟩
        try simp only [Act.put, List.getElem_toArray, List.getElem_cons_succ, List.getElem_cons_zero, List.setIfInBounds_toArray, List.set_cons_zero, List.set_cons_succ]
        first | (refine Wk.skip (m := 0) (k := 6) rfl (by rfl) ?_) | (refine Wk.step (m := 0) (k := 6) (v := _) rfl (by rfl) (fun wv hS => by obtain ⟨s0, s1, s2, s3, s4, s5⟩ := hS; go_simp; try with_reducible rfl) ?_)
        try simp only [Act.put, List.getElem_toArray, List.getElem_cons_succ, List.getElem_cons_zero, List.setIfInBounds_toArray, List.set_cons_zero, List.set_cons_succ]
        refine Wk.done fun wE hE => ?_
        obtain ⟨mE, k0, k1, c0', c1', c2'⟩ := hE
        go_wp2_with fail
        go_roundw
        case rel => exact ⟨rfl, k + 1, by omega, by go_num, HE.out, hM.trans mE⟩
        case measure => simp [intOf]; omega
    · obtain rfl : k = N := by omega
      go_wp2_with fail
      go_ret
      exact ⟨retI (by rw [HR.out, hS.out, Nat.sub_self]; rfl), hM'⟩

set_option maxRecDepth 100000 in
set_option maxHeartbeats 4000000 in
theorem specPAll (a0 a1 : Option Addr) (n0 c0 n1 c1 B' : Nat) (zs : List TLink) (a : Option Addr) (n c B : Nat) (ps : List TPathPart) (w : World) (hl : HasLink w B' a1 n1 zs) (hB' : B' ≤ w.heap.size) (hn1 : n1 ≤ 1048576) (h : HasPathPart w B a n ps) (hB : B ≤ w.heap.size) (hn : szPathPart ps n ≤ 1048576) :
    Calls Try.prog 32 #[.agg #[.slice a0 n0 c0, .slice a1 n1 c1], .agg #[.slice a n c]] w fun e w' => e = .returned (.bool (ffV zs n1 ps n == -1)) ∧ Mk0 w w' := by
  have M0 := (Mk.alloc w (Obj.cells #[Value.slice a0 n0 c0, Value.slice a1 n1 c1] 51)).new (Obj.cells #[Value.slice a n c] 30)
  have hor := Lib.hid (show ffV zs n1 ps n = -1 ∨ 0 ≤ ffV zs n1 ps n from firstNot_or _ _ _ _)
  go_enter Try.func32, Try.ntmps32
  go_wp2_with fail
  refine (specFForb a0 a1 n0 c0 n1 c1 B' zs a n c B ps _ (hl.mk M0 hB' (.inr (Nat.le_refl _))) (Nat.le_trans hB' M0.size) hn1 (h.mk M0 hB (.inr (Nat.le_refl _))) (Nat.le_trans hB M0.size) hn).mono ?_
  rintro e w2 ⟨rfl, m2⟩
  go_wp2_with fail
  go_ret
  exact ⟨retB (by rw [Bool.eq_iff_iff]; have := hor.out; simp; omega), M0.trans m2⟩

set_option maxRecDepth 100000 in
set_option maxHeartbeats 4000000 in
theorem implFForb (a0 a1 : Option Addr) (n0 c0 n1 c1 B' : Nat) (zs : List TLink) (a : Option Addr) (n c B : Nat) (ps : List TPathPart) (w : World) (hl : HasLink w B' a1 n1 zs) (hB' : B' ≤ w.heap.size) (hn1 : n1 ≤ 1048576) (h : HasPathPart w B a n ps) (hB : B ≤ w.heap.size) (hn : szPathPart ps n ≤ 1048576) :
    Calls Try.prog 37 #[.agg #[.slice a0 n0 c0, .slice a1 n1 c1], .agg #[.slice a n c]] w fun e w' => e = .returned (.int .i64 (ffV zs n1 ps n)) ∧ Mk0 w w' := by
  have M0 := (Mk.alloc w (Obj.cells #[Value.slice a0 n0 c0, Value.slice a1 n1 c1] 51)).new (Obj.cells #[Value.slice a n c] 30)
  have k0 : ((w.alloc (Obj.cells #[Value.slice a0 n0 c0, Value.slice a1 n1 c1] 51)).alloc (Obj.cells #[Value.slice a n c] 30)).cell? ⟨w.heap.size, 0, none⟩ = some (.slice a0 n0 c0) := by simp [go_sem]
  have k1 : ((w.alloc (Obj.cells #[Value.slice a0 n0 c0, Value.slice a1 n1 c1] 51)).alloc (Obj.cells #[Value.slice a n c] 30)).cell? ⟨w.heap.size, 1, none⟩ = some (.slice a1 n1 c1) := by simp [go_sem]
  go_enter Try.func37, Try.ntmps37
  go_wp2_with fail
  refine (implPathSteps a n c B ps _ (h.mk M0 hB (.inr (Nat.le_refl _))) (Nat.le_trans hB M0.size) hn).mono ?_
  rintro e w2 ⟨A, N, cc, rfl, hcc, oo, m2⟩
  replace k0 := m2.cellAt k0
  replace k1 := m2.cellAt k1
  have M2 := M0.trans m2
  have hNle : N ≤ 1048576 := by have := pathSt_le ps n; have := oo.1; omega
  have HR := Lib.hid (show ffV zs n1 ps n = firstNot (stepOkB zs n1) (pathSt ps n) N N by unfold ffV; rw [oo.1])
  have HN := Lib.hid oo.1
  go_wp2_with fail
  go_loopw [4, 10] (fun r i wr => r = .int .i64 0 ∧ ∃ k : Nat, k ≤ N ∧ i = .int .i64 k ∧ Hid (firstNot (stepOkB zs n1) (pathSt ps n) N N = firstNot (stepOkB zs n1) (pathSt ps n) N (N - k)) ∧ Mk0 w2 wr) (fun _ i _ => N - (intOf i).toNat)
  case atStart => exact ⟨rfl, 0, Nat.zero_le _, rfl, rfl, Mk.refl _ _ _⟩
  case round =>
    obtain ⟨rfl, k, hk, rfl, hS, hM⟩ := hrel
    have hM' := M2.trans hM
    replace k0 := hM.cellAt k0
    replace k1 := hM.cellAt k1
    by_cases hlt : k < N
    · obtain ⟨b, off, y, rfl, hb, hx, c0', c1', c2'⟩ := HasStep.at _ _ _ _ _ _ (oo.has.mk hM (Nat.le_refl _) (.inr (Nat.le_refl _))) hlt
      have hbr := World.block_lt_of_cell? _ _ c0'
      simp only at hbr
      have hbq := World.block_lt_of_cell? _ _ k0
      simp only at hbq
      have i1 : (0 : Int) ≤ (k : Int) := by omega
      have i2 : (k : Int) < (N : Int) := by omega
      cases hr : stepOkB zs n1 y
      · have HE := Lib.hid (show firstNot (stepOkB zs n1) (pathSt ps n) N N = (k : Int) by rw [hS.out]; exact firstNot_stop hlt (by rw [← hx.out]; exact hr))
        have HK := Lib.hid hr
        clear hr
        have MX := Mk.alloc wr (Obj.cells #[Value.int .i64 y.nd, Value.int .i64 y.ing, Value.int .i64 y.eg] 79)
        have MM := hM'.trans MX
        go_wp2_with fail
        refine (implStepOk a0 a1 n0 c0 n1 c1 B' zs y _ (hl.mk MM hB' (.inr (Nat.le_refl _))) (Nat.le_trans hB' MM.size) hn1).mono ?_
        rintro e w3 ⟨he, m3⟩
        rw [HK.out] at he
        subst he
        have mE := MX.trans m3
        go_wp2_with fail
        go_ret
        exact ⟨retI (by rw [HR.out, HE.out]), hM'.trans mE⟩
      · have HE := Lib.hid (show firstNot (stepOkB zs n1) (pathSt ps n) N N = firstNot (stepOkB zs n1) (pathSt ps n) N (N - (k + 1)) by rw [hS.out]; exact firstNot_go hlt (by rw [← hx.out]; exact hr))
        have HK := Lib.hid hr
        clear hr
        have MX := Mk.alloc wr (Obj.cells #[Value.int .i64 y.nd, Value.int .i64 y.ing, Value.int .i64 y.eg] 79)
        have MM := hM'.trans MX
        go_wp2_with fail
        refine (implStepOk a0 a1 n0 c0 n1 c1 B' zs y _ (hl.mk MM hB' (.inr (Nat.le_refl _))) (Nat.le_trans hB' MM.size) hn1).mono ?_
        rintro e w3 ⟨he, m3⟩
        rw [HK.out] at he
        subst he
        have mE := MX.trans m3
        go_wp2_with fail
        go_roundw
        case rel => exact ⟨rfl, k + 1, by omega, by go_num, HE.out, hM.trans mE⟩
        case measure => simp [intOf]; omega
    · obtain rfl : k = N := by omega
      go_wp2_with fail
      go_ret
      exact ⟨retI (by rw [HR.out, hS.out, Nat.sub_self]; rfl), hM'⟩

set_option maxRecDepth 100000 in
set_option maxHeartbeats 4000000 in
theorem implPAll (a0 a1 : Option Addr) (n0 c0 n1 c1 B' : Nat) (zs : List TLink) (a : Option Addr) (n c B : Nat) (ps : List TPathPart) (w : World) (hl : HasLink w B' a1 n1 zs) (hB' : B' ≤ w.heap.size) (hn1 : n1 ≤ 1048576) (h : HasPathPart w B a n ps) (hB : B ≤ w.heap.size) (hn : szPathPart ps n ≤ 1048576) :
    Calls Try.prog 34 #[.agg #[.slice a0 n0 c0, .slice a1 n1 c1], .agg #[.slice a n c]] w fun e w' => e = .returned (.bool (ffV zs n1 ps n == -1)) ∧ Mk0 w w' := by
  have M0 := (Mk.alloc w (Obj.cells #[Value.slice a0 n0 c0, Value.slice a1 n1 c1] 51)).new (Obj.cells #[Value.slice a n c] 30)
  have hor := Lib.hid (show ffV zs n1 ps n = -1 ∨ 0 ≤ ffV zs n1 ps n from firstNot_or _ _ _ _)
  go_enter Try.func34, Try.ntmps34
  go_wp2_with fail
  refine (implFForb a0 a1 n0 c0 n1 c1 B' zs a n c B ps _ (hl.mk M0 hB' (.inr (Nat.le_refl _))) (Nat.le_trans hB' M0.size) hn1 (h.mk M0 hB (.inr (Nat.le_refl _))) (Nat.le_trans hB M0.size) hn).mono ?_
  rintro e w2 ⟨rfl, m2⟩
  go_wp2_with fail
  go_ret
  exact ⟨rfl, M0.trans m2⟩

end Go.Proofs.Ytmpbpbcjflmfeaa
