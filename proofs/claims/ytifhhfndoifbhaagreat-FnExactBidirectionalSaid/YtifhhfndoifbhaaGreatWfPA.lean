
/- Whether a part may follow another one. -/
import Derived.Test.YtifhhfndoifbhaaGreatVPtS
import Derived.Test.YtifhhfndoifbhaaGreatStepI
import Derived.Deep.RegionHeld3
namespace Go.Proofs.YtifhhfndoifbhaaGreat
open Go.ChangeShapes Go.WideShapes Go.ChangeAt Go.RowKit
set_option linter.unusedVariables false
def rkP (k : Int) : Int := if k = 1 then 1 else if k = 2 ∨ k = 3 then 2 else 3
def folP (x y : TPathPart) : Bool := decide (rkP x.kind < rkP y.kind) && meetB (stL x x.hops.length) (stL y y.hops.length)
theorem stL_get (x : TPathPart) : ∀ k j, j < k → (stL x k).getD j default = stOf x j
  | 0, j, h => absurd h (by omega)
  | k + 1, j, h => by
    have hl := stL_len x k
    rw [stL, List.getD_eq_getElem?_getD]
    by_cases hj : j < k
    · rw [List.getElem?_append_left (by omega), ← List.getD_eq_getElem?_getD]
      exact stL_get x k j hj
    · obtain rfl : j = k := by omega
      rw [List.getElem?_append_right (by omega), hl, Nat.sub_self]
      rfl
theorem meet_nd {x y : TPathPart} {m q : Nat} (hm : x.hops.length = m + 1) (hq : y.hops.length = q + 1) : meetB (stL x x.hops.length) (stL y y.hops.length) = ((x.hops.getD m default).nd == (y.hops.getD 0 default).nd) := by
  unfold meetB lastS
  rw [stL_len, stL_len, stL_get _ _ _ (by omega), stL_get _ _ _ (by omega), decide_eq_true (by omega), decide_eq_true (by omega), hm, Nat.add_sub_cancel]
  rfl
set_option maxRecDepth 100000 in
set_option maxHeartbeats 4000000 in
theorem place1 (w : World) : Calls Tryz.prog 163 #[.agg #[]] w fun e w' => e = .returned (.int .i64 0) ∧ Mk0 w w' := by
  go_enter Tryz.func163, Tryz.ntmps163
  go_wp2_with fail
  go_ret
  exact ⟨rfl, Mk.alloc _ _⟩
set_option maxRecDepth 100000 in
set_option maxHeartbeats 4000000 in
theorem place2 (w : World) : Calls Tryz.prog 164 #[.agg #[]] w fun e w' => e = .returned (.int .i64 1) ∧ Mk0 w w' := by
  go_enter Tryz.func164, Tryz.ntmps164
  go_wp2_with fail
  go_ret
  exact ⟨rfl, Mk.alloc _ _⟩
set_option maxRecDepth 100000 in
set_option maxHeartbeats 4000000 in
theorem place3 (w : World) : Calls Tryz.prog 165 #[.agg #[]] w fun e w' => e = .returned (.int .i64 1) ∧ Mk0 w w' := by
  go_enter Tryz.func165, Tryz.ntmps165
  go_wp2_with fail
  go_ret
  exact ⟨rfl, Mk.alloc _ _⟩
set_option maxRecDepth 100000 in
set_option maxHeartbeats 4000000 in
theorem place4 (w : World) : Calls Tryz.prog 166 #[.agg #[]] w fun e w' => e = .returned (.int .i64 2) ∧ Mk0 w w' := by
  go_enter Tryz.func166, Tryz.ntmps166
  go_wp2_with fail
  go_ret
  exact ⟨rfl, Mk.alloc _ _⟩
theorem meth1 (n : Nat) (w : World) : (method (n + 1) 133 (.agg #[]) "loop.example/g00505/impl.place").run Tryz.prog w = .ok (163, .agg #[]) w := by kernel_rfl
theorem meth2 (n : Nat) (w : World) : (method (n + 1) 134 (.agg #[]) "loop.example/g00505/impl.place").run Tryz.prog w = .ok (164, .agg #[]) w := by kernel_rfl
theorem meth3 (n : Nat) (w : World) : (method (n + 1) 135 (.agg #[]) "loop.example/g00505/impl.place").run Tryz.prog w = .ok (165, .agg #[]) w := by kernel_rfl
theorem meth4 (n : Nat) (w : World) : (method (n + 1) 136 (.agg #[]) "loop.example/g00505/impl.place").run Tryz.prog w = .ok (166, .agg #[]) w := by kernel_rfl
set_option maxRecDepth 100000 in
set_option maxHeartbeats 4000000 in
theorem specRank (k : Int) (w : World) : Calls Tryz.prog 54 #[.int .i64 k] w fun e w' => e = .returned (.int .i64 (rkP k)) ∧ w = w' := by
  by_cases e1 : k = 1
  · subst e1
    go_enter Tryz.func54, Tryz.ntmps54
    go_wp2_with fail
    go_ret
    exact ⟨rfl, rfl⟩
  by_cases e2 : k = 2
  · subst e2
    go_enter Tryz.func54, Tryz.ntmps54
    go_wp2_with fail
    go_ret
    exact ⟨rfl, rfl⟩
  by_cases e3 : k = 3
  · subst e3
    go_enter Tryz.func54, Tryz.ntmps54
    go_wp2_with fail
    go_ret
    exact ⟨rfl, rfl⟩
  have HR := Lib.hid (show rkP k = 3 by simp [rkP, e1, e2, e3])
  have f1 : (k == 1) = false := by simpa using e1
  clear e1
  have f2 : (k == 2) = false := by simpa using e2
  clear e2
  have f3 : (k == 3) = false := by simpa using e3
  clear e3
  go_enter Tryz.func54, Tryz.ntmps54
  go_wp2_with fail
  go_ret
  exact ⟨retI HR.out.symm, rfl⟩
end Go.Proofs.YtifhhfndoifbhaaGreat
namespace Go.Proofs.YtifhhfndoifbhaaGreat
open Go.ChangeShapes Go.WideShapes Go.ChangeAt Go.RowKit
set_option linter.unusedVariables false
set_option maxRecDepth 100000 in
set_option maxHeartbeats 4000000 in
theorem implMay11 (x1 x2 : Int) (a : Option Addr) (n c B : Nat) (zs : List THop) (y1 y2 : Int) (a' : Option Addr) (n' c' B' : Nat) (zs' : List THop) (w : World) (h : HasHop w B a n zs) (hB : B ≤ w.heap.size) (hn : n ≤ 1048576) (h' : HasHop w B' a' n' zs') (hB' : B' ≤ w.heap.size) (hn' : n' ≤ 1048576) :
    Calls Tryz.prog 61 #[.agg #[.int .i64 1, .int .i64 x1, .int .i64 x2, .slice a n c], .agg #[.int .i64 1, .int .i64 y1, .int .i64 y2, .slice a' n' c']] w fun e w' => e = .returned (.bool (false)) ∧ Mk0 w w' := by
  have M0 := (Mk.alloc w (Obj.cells #[Value.int .i64 1, Value.int .i64 x1, Value.int .i64 x2, Value.slice a n c] 50)).new (Obj.cells #[Value.int .i64 1, Value.int .i64 y1, Value.int .i64 y2, Value.slice a' n' c'] 50)
  have k0 : ((w.alloc (Obj.cells #[Value.int .i64 1, Value.int .i64 x1, Value.int .i64 x2, Value.slice a n c] 50)).alloc (Obj.cells #[Value.int .i64 1, Value.int .i64 y1, Value.int .i64 y2, Value.slice a' n' c'] 50)).cell? ⟨w.heap.size, 0, none⟩ = some (.int .i64 1) := by simp [go_sem]
  have k1 : ((w.alloc (Obj.cells #[Value.int .i64 1, Value.int .i64 x1, Value.int .i64 x2, Value.slice a n c] 50)).alloc (Obj.cells #[Value.int .i64 1, Value.int .i64 y1, Value.int .i64 y2, Value.slice a' n' c'] 50)).cell? ⟨w.heap.size, 1, none⟩ = some (.int .i64 x1) := by simp [go_sem]
  have k2 : ((w.alloc (Obj.cells #[Value.int .i64 1, Value.int .i64 x1, Value.int .i64 x2, Value.slice a n c] 50)).alloc (Obj.cells #[Value.int .i64 1, Value.int .i64 y1, Value.int .i64 y2, Value.slice a' n' c'] 50)).cell? ⟨w.heap.size, 2, none⟩ = some (.int .i64 x2) := by simp [go_sem]
  have k3 : ((w.alloc (Obj.cells #[Value.int .i64 1, Value.int .i64 x1, Value.int .i64 x2, Value.slice a n c] 50)).alloc (Obj.cells #[Value.int .i64 1, Value.int .i64 y1, Value.int .i64 y2, Value.slice a' n' c'] 50)).cell? ⟨w.heap.size, 3, none⟩ = some (.slice a n c) := by simp [go_sem]
  have j0 : ((w.alloc (Obj.cells #[Value.int .i64 1, Value.int .i64 x1, Value.int .i64 x2, Value.slice a n c] 50)).alloc (Obj.cells #[Value.int .i64 1, Value.int .i64 y1, Value.int .i64 y2, Value.slice a' n' c'] 50)).cell? ⟨w.heap.size + 1, 0, none⟩ = some (.int .i64 1) := by simp [go_sem]
  have j1 : ((w.alloc (Obj.cells #[Value.int .i64 1, Value.int .i64 x1, Value.int .i64 x2, Value.slice a n c] 50)).alloc (Obj.cells #[Value.int .i64 1, Value.int .i64 y1, Value.int .i64 y2, Value.slice a' n' c'] 50)).cell? ⟨w.heap.size + 1, 1, none⟩ = some (.int .i64 y1) := by simp [go_sem]
  have j2 : ((w.alloc (Obj.cells #[Value.int .i64 1, Value.int .i64 x1, Value.int .i64 x2, Value.slice a n c] 50)).alloc (Obj.cells #[Value.int .i64 1, Value.int .i64 y1, Value.int .i64 y2, Value.slice a' n' c'] 50)).cell? ⟨w.heap.size + 1, 2, none⟩ = some (.int .i64 y2) := by simp [go_sem]
  have j3 : ((w.alloc (Obj.cells #[Value.int .i64 1, Value.int .i64 x1, Value.int .i64 x2, Value.slice a n c] 50)).alloc (Obj.cells #[Value.int .i64 1, Value.int .i64 y1, Value.int .i64 y2, Value.slice a' n' c'] 50)).cell? ⟨w.heap.size + 1, 3, none⟩ = some ((.slice a' n' c')) := by simp [go_sem]
  have hmi := meth1
  go_enter Tryz.func61, Tryz.ntmps61
  go_wp2_with fail
  refine wp_region_wk (fun w' => Mk0 ((w.alloc (Obj.cells #[Value.int .i64 1, Value.int .i64 x1, Value.int .i64 x2, Value.slice a n c] 50)).alloc (Obj.cells #[Value.int .i64 1, Value.int .i64 y1, Value.int .i64 y2, Value.slice a' n' c'] 50)) w' ∧ w'.cell? ⟨w.heap.size, 0, none⟩ = some (.int .i64 1) ∧ w'.cell? ⟨w.heap.size, 1, none⟩ = some (.int .i64 x1) ∧ w'.cell? ⟨w.heap.size, 2, none⟩ = some (.int .i64 x2) ∧ w'.cell? ⟨w.heap.size, 3, none⟩ = some (.slice a n c) ∧ w'.cell? ⟨w.heap.size + 1, 0, none⟩ = some (.int .i64 1) ∧ w'.cell? ⟨w.heap.size + 1, 1, none⟩ = some (.int .i64 y1) ∧ w'.cell? ⟨w.heap.size + 1, 2, none⟩ = some (.int .i64 y2) ∧ w'.cell? ⟨w.heap.size + 1, 3, none⟩ = some ((.slice a' n' c'))) (by kernel_rfl) (by kernel_rfl) (⟨Mk.drew1 _, k0, k1, k2, k3, j0, j1, j2, j3⟩) ?_
  change Wk _ _ _ _ 17 0 _
  first | (refine Wk.skip (m := 16) (k := 0) rfl (by rfl) ?_) | (refine Wk.step (m := 16) (k := 0) (v := _) rfl (by rfl) (fun wv hS => by obtain ⟨s0, s1, s2, s3, s4, s5, s6, s7, s8⟩ := hS; go_simp; try with_reducible rfl) ?_)
  try simp only [Act.put, List.getElem_toArray, List.getElem_cons_zero, List.setIfInBounds_toArray, List.set_cons_zero, List.set_cons_succ]
  first | (refine Wk.skip (m := 15) (k := 1) rfl (by rfl) ?_) | (refine Wk.step (m := 15) (k := 1) (v := _) rfl (by rfl) (fun wv hS => by obtain ⟨s0, s1, s2, s3, s4, s5, s6, s7, s8⟩ := hS; go_simp; try with_reducible rfl) ?_)
  try simp only [Act.put, List.getElem_toArray, List.getElem_cons_succ, List.getElem_cons_zero, List.setIfInBounds_toArray, List.set_cons_zero, List.set_cons_succ]
  refine Wk.call (m := 14) (k := 2) (v := .iface 133 (.agg #[])) _ _ rfl (by rfl) (fun wv hS => by obtain ⟨s0, s1, s2, s3, s4, s5, s6, s7, s8⟩ := hS; go_simp; first | done | exact ⟨rfl, rfl⟩ | with_reducible rfl) (fun wv hS => ?_) ?_; · obtain ⟨s0, s1, s2, s3, s4, s5, s6, s7, s8⟩ := hS; refine (kindIs1 wv).mono ?_; rintro e w' ⟨he, mm⟩; exact ⟨he, ⟨s0.trans mm, mm.cellAt s1, mm.cellAt s2, mm.cellAt s3, mm.cellAt s4, mm.cellAt s5, mm.cellAt s6, mm.cellAt s7, mm.cellAt s8⟩⟩
  try simp only [Act.put, List.getElem_toArray, List.getElem_cons_succ, List.getElem_cons_zero, List.setIfInBounds_toArray, List.set_cons_zero, List.set_cons_succ]
  refine Wk.call (m := 13) (k := 3) (v := .int .i64 0) _ _ rfl (by rfl) (fun wv hS => by obtain ⟨s0, s1, s2, s3, s4, s5, s6, s7, s8⟩ := hS; go_simp; first | done | exact ⟨rfl, rfl⟩ | with_reducible rfl) (fun wv hS => ?_) ?_; · obtain ⟨s0, s1, s2, s3, s4, s5, s6, s7, s8⟩ := hS; refine (place1 wv).mono ?_; rintro e w' ⟨he, mm⟩; exact ⟨he, ⟨s0.trans mm, mm.cellAt s1, mm.cellAt s2, mm.cellAt s3, mm.cellAt s4, mm.cellAt s5, mm.cellAt s6, mm.cellAt s7, mm.cellAt s8⟩⟩
  try simp only [Act.put, List.getElem_toArray, List.getElem_cons_succ, List.getElem_cons_zero, List.setIfInBounds_toArray, List.set_cons_zero, List.set_cons_succ]
  first | (refine Wk.skip (m := 12) (k := 4) rfl (by rfl) ?_) | (refine Wk.step (m := 12) (k := 4) (v := _) rfl (by rfl) (fun wv hS => by obtain ⟨s0, s1, s2, s3, s4, s5, s6, s7, s8⟩ := hS; go_simp; try with_reducible rfl) ?_)
  try simp only [Act.put, List.getElem_toArray, List.getElem_cons_succ, List.getElem_cons_zero, List.setIfInBounds_toArray, List.set_cons_zero, List.set_cons_succ]
  first | (refine Wk.skip (m := 11) (k := 5) rfl (by rfl) ?_) | (refine Wk.step (m := 11) (k := 5) (v := _) rfl (by rfl) (fun wv hS => by obtain ⟨s0, s1, s2, s3, s4, s5, s6, s7, s8⟩ := hS; go_simp; try with_reducible rfl) ?_)
  try simp only [Act.put, List.getElem_toArray, List.getElem_cons_succ, List.getElem_cons_zero, List.setIfInBounds_toArray, List.set_cons_zero, List.set_cons_succ]
  refine Wk.call (m := 10) (k := 6) (v := .iface 133 (.agg #[])) _ _ rfl (by rfl) (fun wv hS => by obtain ⟨s0, s1, s2, s3, s4, s5, s6, s7, s8⟩ := hS; go_simp; first | done | exact ⟨rfl, rfl⟩ | with_reducible rfl) (fun wv hS => ?_) ?_; · obtain ⟨s0, s1, s2, s3, s4, s5, s6, s7, s8⟩ := hS; refine (kindIs1 wv).mono ?_; rintro e w' ⟨he, mm⟩; exact ⟨he, ⟨s0.trans mm, mm.cellAt s1, mm.cellAt s2, mm.cellAt s3, mm.cellAt s4, mm.cellAt s5, mm.cellAt s6, mm.cellAt s7, mm.cellAt s8⟩⟩
  try simp only [Act.put, List.getElem_toArray, List.getElem_cons_succ, List.getElem_cons_zero, List.setIfInBounds_toArray, List.set_cons_zero, List.set_cons_succ]
  refine Wk.call (m := 9) (k := 7) (v := .int .i64 0) _ _ rfl (by rfl) (fun wv hS => by obtain ⟨s0, s1, s2, s3, s4, s5, s6, s7, s8⟩ := hS; go_simp; first | done | exact ⟨rfl, rfl⟩ | with_reducible rfl) (fun wv hS => ?_) ?_; · obtain ⟨s0, s1, s2, s3, s4, s5, s6, s7, s8⟩ := hS; refine (place1 wv).mono ?_; rintro e w' ⟨he, mm⟩; exact ⟨he, ⟨s0.trans mm, mm.cellAt s1, mm.cellAt s2, mm.cellAt s3, mm.cellAt s4, mm.cellAt s5, mm.cellAt s6, mm.cellAt s7, mm.cellAt s8⟩⟩
  try simp only [Act.put, List.getElem_toArray, List.getElem_cons_succ, List.getElem_cons_zero, List.setIfInBounds_toArray, List.set_cons_zero, List.set_cons_succ]
  first | (refine Wk.skip (m := 8) (k := 8) rfl (by rfl) ?_) | (refine Wk.step (m := 8) (k := 8) (v := _) rfl (by rfl) (fun wv hS => by obtain ⟨s0, s1, s2, s3, s4, s5, s6, s7, s8⟩ := hS; go_simp; try with_reducible rfl) ?_)
  try simp only [Act.put, List.getElem_toArray, List.getElem_cons_succ, List.getElem_cons_zero, List.setIfInBounds_toArray, List.set_cons_zero, List.set_cons_succ]
  first | (refine Wk.skip (m := 7) (k := 9) rfl (by rfl) ?_) | (refine Wk.step (m := 7) (k := 9) (v := _) rfl (by rfl) (fun wv hS => by obtain ⟨s0, s1, s2, s3, s4, s5, s6, s7, s8⟩ := hS; go_simp; try with_reducible rfl) ?_)
  try simp only [Act.put, List.getElem_toArray, List.getElem_cons_succ, List.getElem_cons_zero, List.setIfInBounds_toArray, List.set_cons_zero, List.set_cons_succ]
  first | (refine Wk.skip (m := 6) (k := 10) rfl (by rfl) ?_) | (refine Wk.step (m := 6) (k := 10) (v := _) rfl (by rfl) (fun wv hS => by obtain ⟨s0, s1, s2, s3, s4, s5, s6, s7, s8⟩ := hS; go_simp; try with_reducible rfl) ?_)
  try simp only [Act.put, List.getElem_toArray, List.getElem_cons_succ, List.getElem_cons_zero, List.setIfInBounds_toArray, List.set_cons_zero, List.set_cons_succ]
  refine Wk.skip (m := 5) (k := 11) rfl (by rfl) ?_
  try simp only [Act.put, List.getElem_toArray, List.getElem_cons_succ, List.getElem_cons_zero, List.setIfInBounds_toArray, List.set_cons_zero, List.set_cons_succ]
  first | (refine Wk.skip (m := 4) (k := 12) rfl (by rfl) ?_) | (refine Wk.step (m := 4) (k := 12) (v := _) rfl (by rfl) (fun wv hS => by obtain ⟨s0, s1, s2, s3, s4, s5, s6, s7, s8⟩ := hS; go_simp; try with_reducible rfl) ?_)
  try simp only [Act.put, List.getElem_toArray, List.getElem_cons_succ, List.getElem_cons_zero, List.setIfInBounds_toArray, List.set_cons_zero, List.set_cons_succ]
  refine Wk.skip (m := 3) (k := 13) rfl (by rfl) ?_
  try simp only [Act.put, List.getElem_toArray, List.getElem_cons_succ, List.getElem_cons_zero, List.setIfInBounds_toArray, List.set_cons_zero, List.set_cons_succ]
  refine Wk.skip (m := 2) (k := 14) rfl (by rfl) ?_
  try simp only [Act.put, List.getElem_toArray, List.getElem_cons_succ, List.getElem_cons_zero, List.setIfInBounds_toArray, List.set_cons_zero, List.set_cons_succ]
  first | (refine Wk.skip (m := 1) (k := 15) rfl (by rfl) ?_) | (refine Wk.step (m := 1) (k := 15) (v := _) rfl (by rfl) (fun wv hS => by obtain ⟨s0, s1, s2, s3, s4, s5, s6, s7, s8⟩ := hS; go_simp; try with_reducible rfl) ?_)
  try simp only [Act.put, List.getElem_toArray, List.getElem_cons_succ, List.getElem_cons_zero, List.setIfInBounds_toArray, List.set_cons_zero, List.set_cons_succ]
  first | (refine Wk.skip (m := 0) (k := 16) rfl (by rfl) ?_) | (refine Wk.step (m := 0) (k := 16) (v := _) rfl (by rfl) (fun wv hS => by obtain ⟨s0, s1, s2, s3, s4, s5, s6, s7, s8⟩ := hS; go_simp; try with_reducible rfl) ?_)
  try simp only [Act.put, List.getElem_toArray, List.getElem_cons_succ, List.getElem_cons_zero, List.setIfInBounds_toArray, List.set_cons_zero, List.set_cons_succ]
  refine Wk.done fun wE hE => ?_
  clear k0 k1 k2 k3 j0 j1 j2 j3
  obtain ⟨mE, k0, k1, k2, k3, j0, j1, j2, j3⟩ := hE
  go_wp2_with fail
  go_ret
  exact ⟨rfl, M0.trans mE⟩

set_option maxRecDepth 100000 in
set_option maxHeartbeats 4000000 in
theorem implMay12 (x1 x2 : Int) (a : Option Addr) (n c B : Nat) (zs : List THop) (y1 y2 : Int) (a' : Option Addr) (n' c' B' : Nat) (zs' : List THop) (w : World) (h : HasHop w B a n zs) (hB : B ≤ w.heap.size) (hn : n ≤ 1048576) (h' : HasHop w B' a' n' zs') (hB' : B' ≤ w.heap.size) (hn' : n' ≤ 1048576) :
    Calls Tryz.prog 61 #[.agg #[.int .i64 1, .int .i64 x1, .int .i64 x2, .slice a n c], .agg #[.int .i64 2, .int .i64 y1, .int .i64 y2, .slice a' n' c']] w fun e w' => e = .returned (.bool (meetB (stL (⟨1, x1, x2, zs⟩ : TPathPart) n) (stL (⟨2, y1, y2, zs'⟩ : TPathPart) n'))) ∧ Mk0 w w' := by
  have M0 := (Mk.alloc w (Obj.cells #[Value.int .i64 1, Value.int .i64 x1, Value.int .i64 x2, Value.slice a n c] 50)).new (Obj.cells #[Value.int .i64 2, Value.int .i64 y1, Value.int .i64 y2, Value.slice a' n' c'] 50)
  have k0 : ((w.alloc (Obj.cells #[Value.int .i64 1, Value.int .i64 x1, Value.int .i64 x2, Value.slice a n c] 50)).alloc (Obj.cells #[Value.int .i64 2, Value.int .i64 y1, Value.int .i64 y2, Value.slice a' n' c'] 50)).cell? ⟨w.heap.size, 0, none⟩ = some (.int .i64 1) := by simp [go_sem]
  have k1 : ((w.alloc (Obj.cells #[Value.int .i64 1, Value.int .i64 x1, Value.int .i64 x2, Value.slice a n c] 50)).alloc (Obj.cells #[Value.int .i64 2, Value.int .i64 y1, Value.int .i64 y2, Value.slice a' n' c'] 50)).cell? ⟨w.heap.size, 1, none⟩ = some (.int .i64 x1) := by simp [go_sem]
  have k2 : ((w.alloc (Obj.cells #[Value.int .i64 1, Value.int .i64 x1, Value.int .i64 x2, Value.slice a n c] 50)).alloc (Obj.cells #[Value.int .i64 2, Value.int .i64 y1, Value.int .i64 y2, Value.slice a' n' c'] 50)).cell? ⟨w.heap.size, 2, none⟩ = some (.int .i64 x2) := by simp [go_sem]
  have k3 : ((w.alloc (Obj.cells #[Value.int .i64 1, Value.int .i64 x1, Value.int .i64 x2, Value.slice a n c] 50)).alloc (Obj.cells #[Value.int .i64 2, Value.int .i64 y1, Value.int .i64 y2, Value.slice a' n' c'] 50)).cell? ⟨w.heap.size, 3, none⟩ = some (.slice a n c) := by simp [go_sem]
  have j0 : ((w.alloc (Obj.cells #[Value.int .i64 1, Value.int .i64 x1, Value.int .i64 x2, Value.slice a n c] 50)).alloc (Obj.cells #[Value.int .i64 2, Value.int .i64 y1, Value.int .i64 y2, Value.slice a' n' c'] 50)).cell? ⟨w.heap.size + 1, 0, none⟩ = some (.int .i64 2) := by simp [go_sem]
  have j1 : ((w.alloc (Obj.cells #[Value.int .i64 1, Value.int .i64 x1, Value.int .i64 x2, Value.slice a n c] 50)).alloc (Obj.cells #[Value.int .i64 2, Value.int .i64 y1, Value.int .i64 y2, Value.slice a' n' c'] 50)).cell? ⟨w.heap.size + 1, 1, none⟩ = some (.int .i64 y1) := by simp [go_sem]
  have j2 : ((w.alloc (Obj.cells #[Value.int .i64 1, Value.int .i64 x1, Value.int .i64 x2, Value.slice a n c] 50)).alloc (Obj.cells #[Value.int .i64 2, Value.int .i64 y1, Value.int .i64 y2, Value.slice a' n' c'] 50)).cell? ⟨w.heap.size + 1, 2, none⟩ = some (.int .i64 y2) := by simp [go_sem]
  have j3 : ((w.alloc (Obj.cells #[Value.int .i64 1, Value.int .i64 x1, Value.int .i64 x2, Value.slice a n c] 50)).alloc (Obj.cells #[Value.int .i64 2, Value.int .i64 y1, Value.int .i64 y2, Value.slice a' n' c'] 50)).cell? ⟨w.heap.size + 1, 3, none⟩ = some ((.slice a' n' c')) := by simp [go_sem]
  have hmi := meth1
  have hmj := meth2
  have e1 : ∀ w', Mk0 ((w.alloc (Obj.cells #[Value.int .i64 1, Value.int .i64 x1, Value.int .i64 x2, Value.slice a n c] 50)).alloc (Obj.cells #[Value.int .i64 2, Value.int .i64 y1, Value.int .i64 y2, Value.slice a' n' c'] 50)) w' → HasHop w' B a n zs := fun w' m => h.mk (M0.trans m) hB (.inr (Nat.le_refl _))
  have e2 : ∀ w', Mk0 ((w.alloc (Obj.cells #[Value.int .i64 1, Value.int .i64 x1, Value.int .i64 x2, Value.slice a n c] 50)).alloc (Obj.cells #[Value.int .i64 2, Value.int .i64 y1, Value.int .i64 y2, Value.slice a' n' c'] 50)) w' → HasHop w' B' a' n' zs' := fun w' m => h'.mk (M0.trans m) hB' (.inr (Nat.le_refl _))
  have e3 : ∀ w', Mk0 ((w.alloc (Obj.cells #[Value.int .i64 1, Value.int .i64 x1, Value.int .i64 x2, Value.slice a n c] 50)).alloc (Obj.cells #[Value.int .i64 2, Value.int .i64 y1, Value.int .i64 y2, Value.slice a' n' c'] 50)) w' → B ≤ w'.heap.size := fun w' m => Nat.le_trans hB (M0.trans m).size
  have e4 : ∀ w', Mk0 ((w.alloc (Obj.cells #[Value.int .i64 1, Value.int .i64 x1, Value.int .i64 x2, Value.slice a n c] 50)).alloc (Obj.cells #[Value.int .i64 2, Value.int .i64 y1, Value.int .i64 y2, Value.slice a' n' c'] 50)) w' → B' ≤ w'.heap.size := fun w' m => Nat.le_trans hB' (M0.trans m).size
  go_enter Tryz.func61, Tryz.ntmps61
  go_wp2_with fail
  go_region_held3 (fun w' => Mk0 ((w.alloc (Obj.cells #[Value.int .i64 1, Value.int .i64 x1, Value.int .i64 x2, Value.slice a n c] 50)).alloc (Obj.cells #[Value.int .i64 2, Value.int .i64 y1, Value.int .i64 y2, Value.slice a' n' c'] 50)) w' ∧ w'.cell? ⟨w.heap.size, 0, none⟩ = some (.int .i64 1) ∧ w'.cell? ⟨w.heap.size, 1, none⟩ = some (.int .i64 x1) ∧ w'.cell? ⟨w.heap.size, 2, none⟩ = some (.int .i64 x2) ∧ w'.cell? ⟨w.heap.size, 3, none⟩ = some (.slice a n c) ∧ w'.cell? ⟨w.heap.size + 1, 0, none⟩ = some (.int .i64 2) ∧ w'.cell? ⟨w.heap.size + 1, 1, none⟩ = some (.int .i64 y1) ∧ w'.cell? ⟨w.heap.size + 1, 2, none⟩ = some (.int .i64 y2) ∧ w'.cell? ⟨w.heap.size + 1, 3, none⟩ = some ((.slice a' n' c'))) (first | exact ⟨Mk.drew1 _, k0, k1, k2, k3, j0, j1, j2, j3⟩ | (obtain ⟨s0, s1, s2, s3, s4, s5, s6, s7, s8⟩ := ‹Mk0 ((w.alloc (Obj.cells #[Value.int .i64 1, Value.int .i64 x1, Value.int .i64 x2, Value.slice a n c] 50)).alloc (Obj.cells #[Value.int .i64 2, Value.int .i64 y1, Value.int .i64 y2, Value.slice a' n' c'] 50)) _ ∧ _›; exact ⟨s0.trans mm, mm.cellAt s1, mm.cellAt s2, mm.cellAt s3, mm.cellAt s4, mm.cellAt s5, mm.cellAt s6, mm.cellAt s7, mm.cellAt s8⟩)) (first | (go_at_call 92; with_reducible refine (kindIs1 _).mono ?_; rintro e wk1 ⟨rfl, mm⟩) | (go_at_call 92; with_reducible refine (kindIs2 _).mono ?_; rintro e wk2 ⟨rfl, mm⟩) | (go_at_call 163; with_reducible refine (place1 _).mono ?_; rintro e wp1 ⟨rfl, mm⟩) | (go_at_call 164; with_reducible refine (place2 _).mono ?_; rintro e wp2 ⟨rfl, mm⟩) | (go_at_call 94; (with_reducible refine (implSoP 1 x1 x2 a n c B zs _ (e1 _ (‹Mk0 ((w.alloc (Obj.cells #[Value.int .i64 1, Value.int .i64 x1, Value.int .i64 x2, Value.slice a n c] 50)).alloc (Obj.cells #[Value.int .i64 2, Value.int .i64 y1, Value.int .i64 y2, Value.slice a' n' c'] 50)) _ ∧ _›).1) (e3 _ (‹Mk0 ((w.alloc (Obj.cells #[Value.int .i64 1, Value.int .i64 x1, Value.int .i64 x2, Value.slice a n c] 50)).alloc (Obj.cells #[Value.int .i64 2, Value.int .i64 y1, Value.int .i64 y2, Value.slice a' n' c'] 50)) _ ∧ _›).1) hn).mono ?_); rintro e wsA ⟨AA, NA, CA, rfl, hcA, oA, mm⟩; have qA := oA.has; have msA := mm) | (go_at_call 94; (with_reducible refine (implSoP 2 y1 y2 a' n' c' B' zs' _ (e2 _ (‹Mk0 ((w.alloc (Obj.cells #[Value.int .i64 1, Value.int .i64 x1, Value.int .i64 x2, Value.slice a n c] 50)).alloc (Obj.cells #[Value.int .i64 2, Value.int .i64 y1, Value.int .i64 y2, Value.slice a' n' c'] 50)) _ ∧ _›).1) (e4 _ (‹Mk0 ((w.alloc (Obj.cells #[Value.int .i64 1, Value.int .i64 x1, Value.int .i64 x2, Value.slice a n c] 50)).alloc (Obj.cells #[Value.int .i64 2, Value.int .i64 y1, Value.int .i64 y2, Value.slice a' n' c'] 50)) _ ∧ _›).1) hn').mono ?_); rintro e wsB ⟨AB, NB, CB, rfl, hcB, oB, mm⟩; have qB := oB.has; have msB := mm) | (go_at_call 93; have hNA : NA ≤ 2097152 := (by have := qA.1; rw [stL_len] at this; omega); have hNB : NB ≤ 2097152 := (by have := qB.1; rw [stL_len] at this; omega); refine (implMeet AA AB NA NB CA CB wsA.heap.size wsB.heap.size _ _ _ (qA.mk msB (Nat.le_refl _) (.inr (Nat.le_refl _))) qB msB.size (Nat.le_refl _) hNA hNB).mono ?_; rintro e wm ⟨rfl, mm⟩))
  have m6 := (‹Mk0 ((w.alloc (Obj.cells #[Value.int .i64 1, Value.int .i64 x1, Value.int .i64 x2, Value.slice a n c] 50)).alloc (Obj.cells #[Value.int .i64 2, Value.int .i64 y1, Value.int .i64 y2, Value.slice a' n' c'] 50)) _ ∧ _›).1
  refine ‹∀ (a : Act) (w : World), _ → _› _ _ ?_
  go_wp2_with fail
  go_ret
  exact ⟨rfl, M0.trans m6⟩

set_option maxRecDepth 100000 in
set_option maxHeartbeats 4000000 in
theorem implMay13 (x1 x2 : Int) (a : Option Addr) (n c B : Nat) (zs : List THop) (y1 y2 : Int) (a' : Option Addr) (n' c' B' : Nat) (zs' : List THop) (w : World) (h : HasHop w B a n zs) (hB : B ≤ w.heap.size) (hn : n ≤ 1048576) (h' : HasHop w B' a' n' zs') (hB' : B' ≤ w.heap.size) (hn' : n' ≤ 1048576) :
    Calls Tryz.prog 61 #[.agg #[.int .i64 1, .int .i64 x1, .int .i64 x2, .slice a n c], .agg #[.int .i64 3, .int .i64 y1, .int .i64 y2, .slice a' n' c']] w fun e w' => e = .returned (.bool (meetB (stL (⟨1, x1, x2, zs⟩ : TPathPart) n) (stL (⟨3, y1, y2, zs'⟩ : TPathPart) n'))) ∧ Mk0 w w' := by
  have M0 := (Mk.alloc w (Obj.cells #[Value.int .i64 1, Value.int .i64 x1, Value.int .i64 x2, Value.slice a n c] 50)).new (Obj.cells #[Value.int .i64 3, Value.int .i64 y1, Value.int .i64 y2, Value.slice a' n' c'] 50)
  have k0 : ((w.alloc (Obj.cells #[Value.int .i64 1, Value.int .i64 x1, Value.int .i64 x2, Value.slice a n c] 50)).alloc (Obj.cells #[Value.int .i64 3, Value.int .i64 y1, Value.int .i64 y2, Value.slice a' n' c'] 50)).cell? ⟨w.heap.size, 0, none⟩ = some (.int .i64 1) := by simp [go_sem]
  have k1 : ((w.alloc (Obj.cells #[Value.int .i64 1, Value.int .i64 x1, Value.int .i64 x2, Value.slice a n c] 50)).alloc (Obj.cells #[Value.int .i64 3, Value.int .i64 y1, Value.int .i64 y2, Value.slice a' n' c'] 50)).cell? ⟨w.heap.size, 1, none⟩ = some (.int .i64 x1) := by simp [go_sem]
  have k2 : ((w.alloc (Obj.cells #[Value.int .i64 1, Value.int .i64 x1, Value.int .i64 x2, Value.slice a n c] 50)).alloc (Obj.cells #[Value.int .i64 3, Value.int .i64 y1, Value.int .i64 y2, Value.slice a' n' c'] 50)).cell? ⟨w.heap.size, 2, none⟩ = some (.int .i64 x2) := by simp [go_sem]
  have k3 : ((w.alloc (Obj.cells #[Value.int .i64 1, Value.int .i64 x1, Value.int .i64 x2, Value.slice a n c] 50)).alloc (Obj.cells #[Value.int .i64 3, Value.int .i64 y1, Value.int .i64 y2, Value.slice a' n' c'] 50)).cell? ⟨w.heap.size, 3, none⟩ = some (.slice a n c) := by simp [go_sem]
  have j0 : ((w.alloc (Obj.cells #[Value.int .i64 1, Value.int .i64 x1, Value.int .i64 x2, Value.slice a n c] 50)).alloc (Obj.cells #[Value.int .i64 3, Value.int .i64 y1, Value.int .i64 y2, Value.slice a' n' c'] 50)).cell? ⟨w.heap.size + 1, 0, none⟩ = some (.int .i64 3) := by simp [go_sem]
  have j1 : ((w.alloc (Obj.cells #[Value.int .i64 1, Value.int .i64 x1, Value.int .i64 x2, Value.slice a n c] 50)).alloc (Obj.cells #[Value.int .i64 3, Value.int .i64 y1, Value.int .i64 y2, Value.slice a' n' c'] 50)).cell? ⟨w.heap.size + 1, 1, none⟩ = some (.int .i64 y1) := by simp [go_sem]
  have j2 : ((w.alloc (Obj.cells #[Value.int .i64 1, Value.int .i64 x1, Value.int .i64 x2, Value.slice a n c] 50)).alloc (Obj.cells #[Value.int .i64 3, Value.int .i64 y1, Value.int .i64 y2, Value.slice a' n' c'] 50)).cell? ⟨w.heap.size + 1, 2, none⟩ = some (.int .i64 y2) := by simp [go_sem]
  have j3 : ((w.alloc (Obj.cells #[Value.int .i64 1, Value.int .i64 x1, Value.int .i64 x2, Value.slice a n c] 50)).alloc (Obj.cells #[Value.int .i64 3, Value.int .i64 y1, Value.int .i64 y2, Value.slice a' n' c'] 50)).cell? ⟨w.heap.size + 1, 3, none⟩ = some ((.slice a' n' c')) := by simp [go_sem]
  have hmi := meth1
  have hmj := meth3
  have e1 : ∀ w', Mk0 ((w.alloc (Obj.cells #[Value.int .i64 1, Value.int .i64 x1, Value.int .i64 x2, Value.slice a n c] 50)).alloc (Obj.cells #[Value.int .i64 3, Value.int .i64 y1, Value.int .i64 y2, Value.slice a' n' c'] 50)) w' → HasHop w' B a n zs := fun w' m => h.mk (M0.trans m) hB (.inr (Nat.le_refl _))
  have e2 : ∀ w', Mk0 ((w.alloc (Obj.cells #[Value.int .i64 1, Value.int .i64 x1, Value.int .i64 x2, Value.slice a n c] 50)).alloc (Obj.cells #[Value.int .i64 3, Value.int .i64 y1, Value.int .i64 y2, Value.slice a' n' c'] 50)) w' → HasHop w' B' a' n' zs' := fun w' m => h'.mk (M0.trans m) hB' (.inr (Nat.le_refl _))
  have e3 : ∀ w', Mk0 ((w.alloc (Obj.cells #[Value.int .i64 1, Value.int .i64 x1, Value.int .i64 x2, Value.slice a n c] 50)).alloc (Obj.cells #[Value.int .i64 3, Value.int .i64 y1, Value.int .i64 y2, Value.slice a' n' c'] 50)) w' → B ≤ w'.heap.size := fun w' m => Nat.le_trans hB (M0.trans m).size
  have e4 : ∀ w', Mk0 ((w.alloc (Obj.cells #[Value.int .i64 1, Value.int .i64 x1, Value.int .i64 x2, Value.slice a n c] 50)).alloc (Obj.cells #[Value.int .i64 3, Value.int .i64 y1, Value.int .i64 y2, Value.slice a' n' c'] 50)) w' → B' ≤ w'.heap.size := fun w' m => Nat.le_trans hB' (M0.trans m).size
  go_enter Tryz.func61, Tryz.ntmps61
  go_wp2_with fail
  go_region_held3 (fun w' => Mk0 ((w.alloc (Obj.cells #[Value.int .i64 1, Value.int .i64 x1, Value.int .i64 x2, Value.slice a n c] 50)).alloc (Obj.cells #[Value.int .i64 3, Value.int .i64 y1, Value.int .i64 y2, Value.slice a' n' c'] 50)) w' ∧ w'.cell? ⟨w.heap.size, 0, none⟩ = some (.int .i64 1) ∧ w'.cell? ⟨w.heap.size, 1, none⟩ = some (.int .i64 x1) ∧ w'.cell? ⟨w.heap.size, 2, none⟩ = some (.int .i64 x2) ∧ w'.cell? ⟨w.heap.size, 3, none⟩ = some (.slice a n c) ∧ w'.cell? ⟨w.heap.size + 1, 0, none⟩ = some (.int .i64 3) ∧ w'.cell? ⟨w.heap.size + 1, 1, none⟩ = some (.int .i64 y1) ∧ w'.cell? ⟨w.heap.size + 1, 2, none⟩ = some (.int .i64 y2) ∧ w'.cell? ⟨w.heap.size + 1, 3, none⟩ = some ((.slice a' n' c'))) (first | exact ⟨Mk.drew1 _, k0, k1, k2, k3, j0, j1, j2, j3⟩ | (obtain ⟨s0, s1, s2, s3, s4, s5, s6, s7, s8⟩ := ‹Mk0 ((w.alloc (Obj.cells #[Value.int .i64 1, Value.int .i64 x1, Value.int .i64 x2, Value.slice a n c] 50)).alloc (Obj.cells #[Value.int .i64 3, Value.int .i64 y1, Value.int .i64 y2, Value.slice a' n' c'] 50)) _ ∧ _›; exact ⟨s0.trans mm, mm.cellAt s1, mm.cellAt s2, mm.cellAt s3, mm.cellAt s4, mm.cellAt s5, mm.cellAt s6, mm.cellAt s7, mm.cellAt s8⟩)) (first | (go_at_call 92; with_reducible refine (kindIs1 _).mono ?_; rintro e wk1 ⟨rfl, mm⟩) | (go_at_call 92; with_reducible refine (kindIs3 _).mono ?_; rintro e wk3 ⟨rfl, mm⟩) | (go_at_call 163; with_reducible refine (place1 _).mono ?_; rintro e wp1 ⟨rfl, mm⟩) | (go_at_call 165; with_reducible refine (place3 _).mono ?_; rintro e wp3 ⟨rfl, mm⟩) | (go_at_call 94; (with_reducible refine (implSoP 1 x1 x2 a n c B zs _ (e1 _ (‹Mk0 ((w.alloc (Obj.cells #[Value.int .i64 1, Value.int .i64 x1, Value.int .i64 x2, Value.slice a n c] 50)).alloc (Obj.cells #[Value.int .i64 3, Value.int .i64 y1, Value.int .i64 y2, Value.slice a' n' c'] 50)) _ ∧ _›).1) (e3 _ (‹Mk0 ((w.alloc (Obj.cells #[Value.int .i64 1, Value.int .i64 x1, Value.int .i64 x2, Value.slice a n c] 50)).alloc (Obj.cells #[Value.int .i64 3, Value.int .i64 y1, Value.int .i64 y2, Value.slice a' n' c'] 50)) _ ∧ _›).1) hn).mono ?_); rintro e wsA ⟨AA, NA, CA, rfl, hcA, oA, mm⟩; have qA := oA.has; have msA := mm) | (go_at_call 94; (with_reducible refine (implSoP 3 y1 y2 a' n' c' B' zs' _ (e2 _ (‹Mk0 ((w.alloc (Obj.cells #[Value.int .i64 1, Value.int .i64 x1, Value.int .i64 x2, Value.slice a n c] 50)).alloc (Obj.cells #[Value.int .i64 3, Value.int .i64 y1, Value.int .i64 y2, Value.slice a' n' c'] 50)) _ ∧ _›).1) (e4 _ (‹Mk0 ((w.alloc (Obj.cells #[Value.int .i64 1, Value.int .i64 x1, Value.int .i64 x2, Value.slice a n c] 50)).alloc (Obj.cells #[Value.int .i64 3, Value.int .i64 y1, Value.int .i64 y2, Value.slice a' n' c'] 50)) _ ∧ _›).1) hn').mono ?_); rintro e wsB ⟨AB, NB, CB, rfl, hcB, oB, mm⟩; have qB := oB.has; have msB := mm) | (go_at_call 93; have hNA : NA ≤ 2097152 := (by have := qA.1; rw [stL_len] at this; omega); have hNB : NB ≤ 2097152 := (by have := qB.1; rw [stL_len] at this; omega); refine (implMeet AA AB NA NB CA CB wsA.heap.size wsB.heap.size _ _ _ (qA.mk msB (Nat.le_refl _) (.inr (Nat.le_refl _))) qB msB.size (Nat.le_refl _) hNA hNB).mono ?_; rintro e wm ⟨rfl, mm⟩))
  have m6 := (‹Mk0 ((w.alloc (Obj.cells #[Value.int .i64 1, Value.int .i64 x1, Value.int .i64 x2, Value.slice a n c] 50)).alloc (Obj.cells #[Value.int .i64 3, Value.int .i64 y1, Value.int .i64 y2, Value.slice a' n' c'] 50)) _ ∧ _›).1
  refine ‹∀ (a : Act) (w : World), _ → _› _ _ ?_
  go_wp2_with fail
  go_ret
  exact ⟨rfl, M0.trans m6⟩

set_option maxRecDepth 100000 in
set_option maxHeartbeats 4000000 in
theorem implMay14 (x1 x2 : Int) (a : Option Addr) (n c B : Nat) (zs : List THop) (y1 y2 : Int) (a' : Option Addr) (n' c' B' : Nat) (zs' : List THop) (w : World) (h : HasHop w B a n zs) (hB : B ≤ w.heap.size) (hn : n ≤ 1048576) (h' : HasHop w B' a' n' zs') (hB' : B' ≤ w.heap.size) (hn' : n' ≤ 1048576) :
    Calls Tryz.prog 61 #[.agg #[.int .i64 1, .int .i64 x1, .int .i64 x2, .slice a n c], .agg #[.int .i64 4, .int .i64 y1, .int .i64 y2, .slice a' n' c']] w fun e w' => e = .returned (.bool (meetB (stL (⟨1, x1, x2, zs⟩ : TPathPart) n) (stL (⟨4, y1, y2, zs'⟩ : TPathPart) n'))) ∧ Mk0 w w' := by
  have M0 := (Mk.alloc w (Obj.cells #[Value.int .i64 1, Value.int .i64 x1, Value.int .i64 x2, Value.slice a n c] 50)).new (Obj.cells #[Value.int .i64 4, Value.int .i64 y1, Value.int .i64 y2, Value.slice a' n' c'] 50)
  have k0 : ((w.alloc (Obj.cells #[Value.int .i64 1, Value.int .i64 x1, Value.int .i64 x2, Value.slice a n c] 50)).alloc (Obj.cells #[Value.int .i64 4, Value.int .i64 y1, Value.int .i64 y2, Value.slice a' n' c'] 50)).cell? ⟨w.heap.size, 0, none⟩ = some (.int .i64 1) := by simp [go_sem]
  have k1 : ((w.alloc (Obj.cells #[Value.int .i64 1, Value.int .i64 x1, Value.int .i64 x2, Value.slice a n c] 50)).alloc (Obj.cells #[Value.int .i64 4, Value.int .i64 y1, Value.int .i64 y2, Value.slice a' n' c'] 50)).cell? ⟨w.heap.size, 1, none⟩ = some (.int .i64 x1) := by simp [go_sem]
  have k2 : ((w.alloc (Obj.cells #[Value.int .i64 1, Value.int .i64 x1, Value.int .i64 x2, Value.slice a n c] 50)).alloc (Obj.cells #[Value.int .i64 4, Value.int .i64 y1, Value.int .i64 y2, Value.slice a' n' c'] 50)).cell? ⟨w.heap.size, 2, none⟩ = some (.int .i64 x2) := by simp [go_sem]
  have k3 : ((w.alloc (Obj.cells #[Value.int .i64 1, Value.int .i64 x1, Value.int .i64 x2, Value.slice a n c] 50)).alloc (Obj.cells #[Value.int .i64 4, Value.int .i64 y1, Value.int .i64 y2, Value.slice a' n' c'] 50)).cell? ⟨w.heap.size, 3, none⟩ = some (.slice a n c) := by simp [go_sem]
  have j0 : ((w.alloc (Obj.cells #[Value.int .i64 1, Value.int .i64 x1, Value.int .i64 x2, Value.slice a n c] 50)).alloc (Obj.cells #[Value.int .i64 4, Value.int .i64 y1, Value.int .i64 y2, Value.slice a' n' c'] 50)).cell? ⟨w.heap.size + 1, 0, none⟩ = some (.int .i64 4) := by simp [go_sem]
  have j1 : ((w.alloc (Obj.cells #[Value.int .i64 1, Value.int .i64 x1, Value.int .i64 x2, Value.slice a n c] 50)).alloc (Obj.cells #[Value.int .i64 4, Value.int .i64 y1, Value.int .i64 y2, Value.slice a' n' c'] 50)).cell? ⟨w.heap.size + 1, 1, none⟩ = some (.int .i64 y1) := by simp [go_sem]
  have j2 : ((w.alloc (Obj.cells #[Value.int .i64 1, Value.int .i64 x1, Value.int .i64 x2, Value.slice a n c] 50)).alloc (Obj.cells #[Value.int .i64 4, Value.int .i64 y1, Value.int .i64 y2, Value.slice a' n' c'] 50)).cell? ⟨w.heap.size + 1, 2, none⟩ = some (.int .i64 y2) := by simp [go_sem]
  have j3 : ((w.alloc (Obj.cells #[Value.int .i64 1, Value.int .i64 x1, Value.int .i64 x2, Value.slice a n c] 50)).alloc (Obj.cells #[Value.int .i64 4, Value.int .i64 y1, Value.int .i64 y2, Value.slice a' n' c'] 50)).cell? ⟨w.heap.size + 1, 3, none⟩ = some ((.slice a' n' c')) := by simp [go_sem]
  have hmi := meth1
  have hmj := meth4
  have e1 : ∀ w', Mk0 ((w.alloc (Obj.cells #[Value.int .i64 1, Value.int .i64 x1, Value.int .i64 x2, Value.slice a n c] 50)).alloc (Obj.cells #[Value.int .i64 4, Value.int .i64 y1, Value.int .i64 y2, Value.slice a' n' c'] 50)) w' → HasHop w' B a n zs := fun w' m => h.mk (M0.trans m) hB (.inr (Nat.le_refl _))
  have e2 : ∀ w', Mk0 ((w.alloc (Obj.cells #[Value.int .i64 1, Value.int .i64 x1, Value.int .i64 x2, Value.slice a n c] 50)).alloc (Obj.cells #[Value.int .i64 4, Value.int .i64 y1, Value.int .i64 y2, Value.slice a' n' c'] 50)) w' → HasHop w' B' a' n' zs' := fun w' m => h'.mk (M0.trans m) hB' (.inr (Nat.le_refl _))
  have e3 : ∀ w', Mk0 ((w.alloc (Obj.cells #[Value.int .i64 1, Value.int .i64 x1, Value.int .i64 x2, Value.slice a n c] 50)).alloc (Obj.cells #[Value.int .i64 4, Value.int .i64 y1, Value.int .i64 y2, Value.slice a' n' c'] 50)) w' → B ≤ w'.heap.size := fun w' m => Nat.le_trans hB (M0.trans m).size
  have e4 : ∀ w', Mk0 ((w.alloc (Obj.cells #[Value.int .i64 1, Value.int .i64 x1, Value.int .i64 x2, Value.slice a n c] 50)).alloc (Obj.cells #[Value.int .i64 4, Value.int .i64 y1, Value.int .i64 y2, Value.slice a' n' c'] 50)) w' → B' ≤ w'.heap.size := fun w' m => Nat.le_trans hB' (M0.trans m).size
  go_enter Tryz.func61, Tryz.ntmps61
  go_wp2_with fail
  go_region_held3 (fun w' => Mk0 ((w.alloc (Obj.cells #[Value.int .i64 1, Value.int .i64 x1, Value.int .i64 x2, Value.slice a n c] 50)).alloc (Obj.cells #[Value.int .i64 4, Value.int .i64 y1, Value.int .i64 y2, Value.slice a' n' c'] 50)) w' ∧ w'.cell? ⟨w.heap.size, 0, none⟩ = some (.int .i64 1) ∧ w'.cell? ⟨w.heap.size, 1, none⟩ = some (.int .i64 x1) ∧ w'.cell? ⟨w.heap.size, 2, none⟩ = some (.int .i64 x2) ∧ w'.cell? ⟨w.heap.size, 3, none⟩ = some (.slice a n c) ∧ w'.cell? ⟨w.heap.size + 1, 0, none⟩ = some (.int .i64 4) ∧ w'.cell? ⟨w.heap.size + 1, 1, none⟩ = some (.int .i64 y1) ∧ w'.cell? ⟨w.heap.size + 1, 2, none⟩ = some (.int .i64 y2) ∧ w'.cell? ⟨w.heap.size + 1, 3, none⟩ = some ((.slice a' n' c'))) (first | exact ⟨Mk.drew1 _, k0, k1, k2, k3, j0, j1, j2, j3⟩ | (obtain ⟨s0, s1, s2, s3, s4, s5, s6, s7, s8⟩ := ‹Mk0 ((w.alloc (Obj.cells #[Value.int .i64 1, Value.int .i64 x1, Value.int .i64 x2, Value.slice a n c] 50)).alloc (Obj.cells #[Value.int .i64 4, Value.int .i64 y1, Value.int .i64 y2, Value.slice a' n' c'] 50)) _ ∧ _›; exact ⟨s0.trans mm, mm.cellAt s1, mm.cellAt s2, mm.cellAt s3, mm.cellAt s4, mm.cellAt s5, mm.cellAt s6, mm.cellAt s7, mm.cellAt s8⟩)) (first | (go_at_call 92; with_reducible refine (kindIs1 _).mono ?_; rintro e wk1 ⟨rfl, mm⟩) | (go_at_call 92; with_reducible refine (kindIs4 _).mono ?_; rintro e wk4 ⟨rfl, mm⟩) | (go_at_call 163; with_reducible refine (place1 _).mono ?_; rintro e wp1 ⟨rfl, mm⟩) | (go_at_call 166; with_reducible refine (place4 _).mono ?_; rintro e wp4 ⟨rfl, mm⟩) | (go_at_call 94; (with_reducible refine (implSoP 1 x1 x2 a n c B zs _ (e1 _ (‹Mk0 ((w.alloc (Obj.cells #[Value.int .i64 1, Value.int .i64 x1, Value.int .i64 x2, Value.slice a n c] 50)).alloc (Obj.cells #[Value.int .i64 4, Value.int .i64 y1, Value.int .i64 y2, Value.slice a' n' c'] 50)) _ ∧ _›).1) (e3 _ (‹Mk0 ((w.alloc (Obj.cells #[Value.int .i64 1, Value.int .i64 x1, Value.int .i64 x2, Value.slice a n c] 50)).alloc (Obj.cells #[Value.int .i64 4, Value.int .i64 y1, Value.int .i64 y2, Value.slice a' n' c'] 50)) _ ∧ _›).1) hn).mono ?_); rintro e wsA ⟨AA, NA, CA, rfl, hcA, oA, mm⟩; have qA := oA.has; have msA := mm) | (go_at_call 94; (with_reducible refine (implSoP 4 y1 y2 a' n' c' B' zs' _ (e2 _ (‹Mk0 ((w.alloc (Obj.cells #[Value.int .i64 1, Value.int .i64 x1, Value.int .i64 x2, Value.slice a n c] 50)).alloc (Obj.cells #[Value.int .i64 4, Value.int .i64 y1, Value.int .i64 y2, Value.slice a' n' c'] 50)) _ ∧ _›).1) (e4 _ (‹Mk0 ((w.alloc (Obj.cells #[Value.int .i64 1, Value.int .i64 x1, Value.int .i64 x2, Value.slice a n c] 50)).alloc (Obj.cells #[Value.int .i64 4, Value.int .i64 y1, Value.int .i64 y2, Value.slice a' n' c'] 50)) _ ∧ _›).1) hn').mono ?_); rintro e wsB ⟨AB, NB, CB, rfl, hcB, oB, mm⟩; have qB := oB.has; have msB := mm) | (go_at_call 93; have hNA : NA ≤ 2097152 := (by have := qA.1; rw [stL_len] at this; omega); have hNB : NB ≤ 2097152 := (by have := qB.1; rw [stL_len] at this; omega); refine (implMeet AA AB NA NB CA CB wsA.heap.size wsB.heap.size _ _ _ (qA.mk msB (Nat.le_refl _) (.inr (Nat.le_refl _))) qB msB.size (Nat.le_refl _) hNA hNB).mono ?_; rintro e wm ⟨rfl, mm⟩))
  have m6 := (‹Mk0 ((w.alloc (Obj.cells #[Value.int .i64 1, Value.int .i64 x1, Value.int .i64 x2, Value.slice a n c] 50)).alloc (Obj.cells #[Value.int .i64 4, Value.int .i64 y1, Value.int .i64 y2, Value.slice a' n' c'] 50)) _ ∧ _›).1
  refine ‹∀ (a : Act) (w : World), _ → _› _ _ ?_
  go_wp2_with fail
  go_ret
  exact ⟨rfl, M0.trans m6⟩

end Go.Proofs.YtifhhfndoifbhaaGreat
namespace Go.Proofs.YtifhhfndoifbhaaGreat
open Go.ChangeShapes Go.WideShapes Go.ChangeAt Go.RowKit
set_option linter.unusedVariables false
set_option maxRecDepth 100000 in
set_option maxHeartbeats 4000000 in
theorem implMay21 (x1 x2 : Int) (a : Option Addr) (n c B : Nat) (zs : List THop) (y1 y2 : Int) (a' : Option Addr) (n' c' B' : Nat) (zs' : List THop) (w : World) (h : HasHop w B a n zs) (hB : B ≤ w.heap.size) (hn : n ≤ 1048576) (h' : HasHop w B' a' n' zs') (hB' : B' ≤ w.heap.size) (hn' : n' ≤ 1048576) :
    Calls Tryz.prog 61 #[.agg #[.int .i64 2, .int .i64 x1, .int .i64 x2, .slice a n c], .agg #[.int .i64 1, .int .i64 y1, .int .i64 y2, .slice a' n' c']] w fun e w' => e = .returned (.bool (false)) ∧ Mk0 w w' := by
  have M0 := (Mk.alloc w (Obj.cells #[Value.int .i64 2, Value.int .i64 x1, Value.int .i64 x2, Value.slice a n c] 50)).new (Obj.cells #[Value.int .i64 1, Value.int .i64 y1, Value.int .i64 y2, Value.slice a' n' c'] 50)
  have k0 : ((w.alloc (Obj.cells #[Value.int .i64 2, Value.int .i64 x1, Value.int .i64 x2, Value.slice a n c] 50)).alloc (Obj.cells #[Value.int .i64 1, Value.int .i64 y1, Value.int .i64 y2, Value.slice a' n' c'] 50)).cell? ⟨w.heap.size, 0, none⟩ = some (.int .i64 2) := by simp [go_sem]
  have k1 : ((w.alloc (Obj.cells #[Value.int .i64 2, Value.int .i64 x1, Value.int .i64 x2, Value.slice a n c] 50)).alloc (Obj.cells #[Value.int .i64 1, Value.int .i64 y1, Value.int .i64 y2, Value.slice a' n' c'] 50)).cell? ⟨w.heap.size, 1, none⟩ = some (.int .i64 x1) := by simp [go_sem]
  have k2 : ((w.alloc (Obj.cells #[Value.int .i64 2, Value.int .i64 x1, Value.int .i64 x2, Value.slice a n c] 50)).alloc (Obj.cells #[Value.int .i64 1, Value.int .i64 y1, Value.int .i64 y2, Value.slice a' n' c'] 50)).cell? ⟨w.heap.size, 2, none⟩ = some (.int .i64 x2) := by simp [go_sem]
  have k3 : ((w.alloc (Obj.cells #[Value.int .i64 2, Value.int .i64 x1, Value.int .i64 x2, Value.slice a n c] 50)).alloc (Obj.cells #[Value.int .i64 1, Value.int .i64 y1, Value.int .i64 y2, Value.slice a' n' c'] 50)).cell? ⟨w.heap.size, 3, none⟩ = some (.slice a n c) := by simp [go_sem]
  have j0 : ((w.alloc (Obj.cells #[Value.int .i64 2, Value.int .i64 x1, Value.int .i64 x2, Value.slice a n c] 50)).alloc (Obj.cells #[Value.int .i64 1, Value.int .i64 y1, Value.int .i64 y2, Value.slice a' n' c'] 50)).cell? ⟨w.heap.size + 1, 0, none⟩ = some (.int .i64 1) := by simp [go_sem]
  have j1 : ((w.alloc (Obj.cells #[Value.int .i64 2, Value.int .i64 x1, Value.int .i64 x2, Value.slice a n c] 50)).alloc (Obj.cells #[Value.int .i64 1, Value.int .i64 y1, Value.int .i64 y2, Value.slice a' n' c'] 50)).cell? ⟨w.heap.size + 1, 1, none⟩ = some (.int .i64 y1) := by simp [go_sem]
  have j2 : ((w.alloc (Obj.cells #[Value.int .i64 2, Value.int .i64 x1, Value.int .i64 x2, Value.slice a n c] 50)).alloc (Obj.cells #[Value.int .i64 1, Value.int .i64 y1, Value.int .i64 y2, Value.slice a' n' c'] 50)).cell? ⟨w.heap.size + 1, 2, none⟩ = some (.int .i64 y2) := by simp [go_sem]
  have j3 : ((w.alloc (Obj.cells #[Value.int .i64 2, Value.int .i64 x1, Value.int .i64 x2, Value.slice a n c] 50)).alloc (Obj.cells #[Value.int .i64 1, Value.int .i64 y1, Value.int .i64 y2, Value.slice a' n' c'] 50)).cell? ⟨w.heap.size + 1, 3, none⟩ = some ((.slice a' n' c')) := by simp [go_sem]
  have hmi := meth2
  have hmj := meth1
  go_enter Tryz.func61, Tryz.ntmps61
  go_wp2_with fail
  refine wp_region_wk (fun w' => Mk0 ((w.alloc (Obj.cells #[Value.int .i64 2, Value.int .i64 x1, Value.int .i64 x2, Value.slice a n c] 50)).alloc (Obj.cells #[Value.int .i64 1, Value.int .i64 y1, Value.int .i64 y2, Value.slice a' n' c'] 50)) w' ∧ w'.cell? ⟨w.heap.size, 0, none⟩ = some (.int .i64 2) ∧ w'.cell? ⟨w.heap.size, 1, none⟩ = some (.int .i64 x1) ∧ w'.cell? ⟨w.heap.size, 2, none⟩ = some (.int .i64 x2) ∧ w'.cell? ⟨w.heap.size, 3, none⟩ = some (.slice a n c) ∧ w'.cell? ⟨w.heap.size + 1, 0, none⟩ = some (.int .i64 1) ∧ w'.cell? ⟨w.heap.size + 1, 1, none⟩ = some (.int .i64 y1) ∧ w'.cell? ⟨w.heap.size + 1, 2, none⟩ = some (.int .i64 y2) ∧ w'.cell? ⟨w.heap.size + 1, 3, none⟩ = some ((.slice a' n' c'))) (by kernel_rfl) (by kernel_rfl) (⟨Mk.drew1 _, k0, k1, k2, k3, j0, j1, j2, j3⟩) ?_
  change Wk _ _ _ _ 17 0 _
  first | (refine Wk.skip (m := 16) (k := 0) rfl (by rfl) ?_) | (refine Wk.step (m := 16) (k := 0) (v := _) rfl (by rfl) (fun wv hS => by obtain ⟨s0, s1, s2, s3, s4, s5, s6, s7, s8⟩ := hS; go_simp; try with_reducible rfl) ?_)
  try simp only [Act.put, List.getElem_toArray, List.getElem_cons_zero, List.setIfInBounds_toArray, List.set_cons_zero, List.set_cons_succ]
  first | (refine Wk.skip (m := 15) (k := 1) rfl (by rfl) ?_) | (refine Wk.step (m := 15) (k := 1) (v := _) rfl (by rfl) (fun wv hS => by obtain ⟨s0, s1, s2, s3, s4, s5, s6, s7, s8⟩ := hS; go_simp; try with_reducible rfl) ?_)
  try simp only [Act.put, List.getElem_toArray, List.getElem_cons_succ, List.getElem_cons_zero, List.setIfInBounds_toArray, List.set_cons_zero, List.set_cons_succ]
  refine Wk.call (m := 14) (k := 2) (v := .iface 134 (.agg #[])) _ _ rfl (by rfl) (fun wv hS => by obtain ⟨s0, s1, s2, s3, s4, s5, s6, s7, s8⟩ := hS; go_simp; first | done | exact ⟨rfl, rfl⟩ | with_reducible rfl) (fun wv hS => ?_) ?_; · obtain ⟨s0, s1, s2, s3, s4, s5, s6, s7, s8⟩ := hS; refine (kindIs2 wv).mono ?_; rintro e w' ⟨he, mm⟩; exact ⟨he, ⟨s0.trans mm, mm.cellAt s1, mm.cellAt s2, mm.cellAt s3, mm.cellAt s4, mm.cellAt s5, mm.cellAt s6, mm.cellAt s7, mm.cellAt s8⟩⟩
  try simp only [Act.put, List.getElem_toArray, List.getElem_cons_succ, List.getElem_cons_zero, List.setIfInBounds_toArray, List.set_cons_zero, List.set_cons_succ]
  refine Wk.call (m := 13) (k := 3) (v := .int .i64 1) _ _ rfl (by rfl) (fun wv hS => by obtain ⟨s0, s1, s2, s3, s4, s5, s6, s7, s8⟩ := hS; go_simp; first | done | exact ⟨rfl, rfl⟩ | with_reducible rfl) (fun wv hS => ?_) ?_; · obtain ⟨s0, s1, s2, s3, s4, s5, s6, s7, s8⟩ := hS; refine (place2 wv).mono ?_; rintro e w' ⟨he, mm⟩; exact ⟨he, ⟨s0.trans mm, mm.cellAt s1, mm.cellAt s2, mm.cellAt s3, mm.cellAt s4, mm.cellAt s5, mm.cellAt s6, mm.cellAt s7, mm.cellAt s8⟩⟩
  try simp only [Act.put, List.getElem_toArray, List.getElem_cons_succ, List.getElem_cons_zero, List.setIfInBounds_toArray, List.set_cons_zero, List.set_cons_succ]
  first | (refine Wk.skip (m := 12) (k := 4) rfl (by rfl) ?_) | (refine Wk.step (m := 12) (k := 4) (v := _) rfl (by rfl) (fun wv hS => by obtain ⟨s0, s1, s2, s3, s4, s5, s6, s7, s8⟩ := hS; go_simp; try with_reducible rfl) ?_)
  try simp only [Act.put, List.getElem_toArray, List.getElem_cons_succ, List.getElem_cons_zero, List.setIfInBounds_toArray, List.set_cons_zero, List.set_cons_succ]
  first | (refine Wk.skip (m := 11) (k := 5) rfl (by rfl) ?_) | (refine Wk.step (m := 11) (k := 5) (v := _) rfl (by rfl) (fun wv hS => by obtain ⟨s0, s1, s2, s3, s4, s5, s6, s7, s8⟩ := hS; go_simp; try with_reducible rfl) ?_)
  try simp only [Act.put, List.getElem_toArray, List.getElem_cons_succ, List.getElem_cons_zero, List.setIfInBounds_toArray, List.set_cons_zero, List.set_cons_succ]
  refine Wk.call (m := 10) (k := 6) (v := .iface 133 (.agg #[])) _ _ rfl (by rfl) (fun wv hS => by obtain ⟨s0, s1, s2, s3, s4, s5, s6, s7, s8⟩ := hS; go_simp; first | done | exact ⟨rfl, rfl⟩ | with_reducible rfl) (fun wv hS => ?_) ?_; · obtain ⟨s0, s1, s2, s3, s4, s5, s6, s7, s8⟩ := hS; refine (kindIs1 wv).mono ?_; rintro e w' ⟨he, mm⟩; exact ⟨he, ⟨s0.trans mm, mm.cellAt s1, mm.cellAt s2, mm.cellAt s3, mm.cellAt s4, mm.cellAt s5, mm.cellAt s6, mm.cellAt s7, mm.cellAt s8⟩⟩
  try simp only [Act.put, List.getElem_toArray, List.getElem_cons_succ, List.getElem_cons_zero, List.setIfInBounds_toArray, List.set_cons_zero, List.set_cons_succ]
  refine Wk.call (m := 9) (k := 7) (v := .int .i64 0) _ _ rfl (by rfl) (fun wv hS => by obtain ⟨s0, s1, s2, s3, s4, s5, s6, s7, s8⟩ := hS; go_simp; first | done | exact ⟨rfl, rfl⟩ | with_reducible rfl) (fun wv hS => ?_) ?_; · obtain ⟨s0, s1, s2, s3, s4, s5, s6, s7, s8⟩ := hS; refine (place1 wv).mono ?_; rintro e w' ⟨he, mm⟩; exact ⟨he, ⟨s0.trans mm, mm.cellAt s1, mm.cellAt s2, mm.cellAt s3, mm.cellAt s4, mm.cellAt s5, mm.cellAt s6, mm.cellAt s7, mm.cellAt s8⟩⟩
  try simp only [Act.put, List.getElem_toArray, List.getElem_cons_succ, List.getElem_cons_zero, List.setIfInBounds_toArray, List.set_cons_zero, List.set_cons_succ]
  first | (refine Wk.skip (m := 8) (k := 8) rfl (by rfl) ?_) | (refine Wk.step (m := 8) (k := 8) (v := _) rfl (by rfl) (fun wv hS => by obtain ⟨s0, s1, s2, s3, s4, s5, s6, s7, s8⟩ := hS; go_simp; try with_reducible rfl) ?_)
  try simp only [Act.put, List.getElem_toArray, List.getElem_cons_succ, List.getElem_cons_zero, List.setIfInBounds_toArray, List.set_cons_zero, List.set_cons_succ]
  first | (refine Wk.skip (m := 7) (k := 9) rfl (by rfl) ?_) | (refine Wk.step (m := 7) (k := 9) (v := _) rfl (by rfl) (fun wv hS => by obtain ⟨s0, s1, s2, s3, s4, s5, s6, s7, s8⟩ := hS; go_simp; try with_reducible rfl) ?_)
  try simp only [Act.put, List.getElem_toArray, List.getElem_cons_succ, List.getElem_cons_zero, List.setIfInBounds_toArray, List.set_cons_zero, List.set_cons_succ]
  first | (refine Wk.skip (m := 6) (k := 10) rfl (by rfl) ?_) | (refine Wk.step (m := 6) (k := 10) (v := _) rfl (by rfl) (fun wv hS => by obtain ⟨s0, s1, s2, s3, s4, s5, s6, s7, s8⟩ := hS; go_simp; try with_reducible rfl) ?_)
  try simp only [Act.put, List.getElem_toArray, List.getElem_cons_succ, List.getElem_cons_zero, List.setIfInBounds_toArray, List.set_cons_zero, List.set_cons_succ]
  refine Wk.skip (m := 5) (k := 11) rfl (by rfl) ?_
  try simp only [Act.put, List.getElem_toArray, List.getElem_cons_succ, List.getElem_cons_zero, List.setIfInBounds_toArray, List.set_cons_zero, List.set_cons_succ]
  first | (refine Wk.skip (m := 4) (k := 12) rfl (by rfl) ?_) | (refine Wk.step (m := 4) (k := 12) (v := _) rfl (by rfl) (fun wv hS => by obtain ⟨s0, s1, s2, s3, s4, s5, s6, s7, s8⟩ := hS; go_simp; try with_reducible rfl) ?_)
  try simp only [Act.put, List.getElem_toArray, List.getElem_cons_succ, List.getElem_cons_zero, List.setIfInBounds_toArray, List.set_cons_zero, List.set_cons_succ]
  refine Wk.skip (m := 3) (k := 13) rfl (by rfl) ?_
  try simp only [Act.put, List.getElem_toArray, List.getElem_cons_succ, List.getElem_cons_zero, List.setIfInBounds_toArray, List.set_cons_zero, List.set_cons_succ]
  refine Wk.skip (m := 2) (k := 14) rfl (by rfl) ?_
  try simp only [Act.put, List.getElem_toArray, List.getElem_cons_succ, List.getElem_cons_zero, List.setIfInBounds_toArray, List.set_cons_zero, List.set_cons_succ]
  first | (refine Wk.skip (m := 1) (k := 15) rfl (by rfl) ?_) | (refine Wk.step (m := 1) (k := 15) (v := _) rfl (by rfl) (fun wv hS => by obtain ⟨s0, s1, s2, s3, s4, s5, s6, s7, s8⟩ := hS; go_simp; try with_reducible rfl) ?_)
  try simp only [Act.put, List.getElem_toArray, List.getElem_cons_succ, List.getElem_cons_zero, List.setIfInBounds_toArray, List.set_cons_zero, List.set_cons_succ]
  first | (refine Wk.skip (m := 0) (k := 16) rfl (by rfl) ?_) | (refine Wk.step (m := 0) (k := 16) (v := _) rfl (by rfl) (fun wv hS => by obtain ⟨s0, s1, s2, s3, s4, s5, s6, s7, s8⟩ := hS; go_simp; try with_reducible rfl) ?_)
  try simp only [Act.put, List.getElem_toArray, List.getElem_cons_succ, List.getElem_cons_zero, List.setIfInBounds_toArray, List.set_cons_zero, List.set_cons_succ]
  refine Wk.done fun wE hE => ?_
  clear k0 k1 k2 k3 j0 j1 j2 j3
  obtain ⟨mE, k0, k1, k2, k3, j0, j1, j2, j3⟩ := hE
  go_wp2_with fail
  go_ret
  exact ⟨rfl, M0.trans mE⟩

set_option maxRecDepth 100000 in
set_option maxHeartbeats 4000000 in
theorem implMay22 (x1 x2 : Int) (a : Option Addr) (n c B : Nat) (zs : List THop) (y1 y2 : Int) (a' : Option Addr) (n' c' B' : Nat) (zs' : List THop) (w : World) (h : HasHop w B a n zs) (hB : B ≤ w.heap.size) (hn : n ≤ 1048576) (h' : HasHop w B' a' n' zs') (hB' : B' ≤ w.heap.size) (hn' : n' ≤ 1048576) :
    Calls Tryz.prog 61 #[.agg #[.int .i64 2, .int .i64 x1, .int .i64 x2, .slice a n c], .agg #[.int .i64 2, .int .i64 y1, .int .i64 y2, .slice a' n' c']] w fun e w' => e = .returned (.bool (false)) ∧ Mk0 w w' := by
  have M0 := (Mk.alloc w (Obj.cells #[Value.int .i64 2, Value.int .i64 x1, Value.int .i64 x2, Value.slice a n c] 50)).new (Obj.cells #[Value.int .i64 2, Value.int .i64 y1, Value.int .i64 y2, Value.slice a' n' c'] 50)
  have k0 : ((w.alloc (Obj.cells #[Value.int .i64 2, Value.int .i64 x1, Value.int .i64 x2, Value.slice a n c] 50)).alloc (Obj.cells #[Value.int .i64 2, Value.int .i64 y1, Value.int .i64 y2, Value.slice a' n' c'] 50)).cell? ⟨w.heap.size, 0, none⟩ = some (.int .i64 2) := by simp [go_sem]
  have k1 : ((w.alloc (Obj.cells #[Value.int .i64 2, Value.int .i64 x1, Value.int .i64 x2, Value.slice a n c] 50)).alloc (Obj.cells #[Value.int .i64 2, Value.int .i64 y1, Value.int .i64 y2, Value.slice a' n' c'] 50)).cell? ⟨w.heap.size, 1, none⟩ = some (.int .i64 x1) := by simp [go_sem]
  have k2 : ((w.alloc (Obj.cells #[Value.int .i64 2, Value.int .i64 x1, Value.int .i64 x2, Value.slice a n c] 50)).alloc (Obj.cells #[Value.int .i64 2, Value.int .i64 y1, Value.int .i64 y2, Value.slice a' n' c'] 50)).cell? ⟨w.heap.size, 2, none⟩ = some (.int .i64 x2) := by simp [go_sem]
  have k3 : ((w.alloc (Obj.cells #[Value.int .i64 2, Value.int .i64 x1, Value.int .i64 x2, Value.slice a n c] 50)).alloc (Obj.cells #[Value.int .i64 2, Value.int .i64 y1, Value.int .i64 y2, Value.slice a' n' c'] 50)).cell? ⟨w.heap.size, 3, none⟩ = some (.slice a n c) := by simp [go_sem]
  have j0 : ((w.alloc (Obj.cells #[Value.int .i64 2, Value.int .i64 x1, Value.int .i64 x2, Value.slice a n c] 50)).alloc (Obj.cells #[Value.int .i64 2, Value.int .i64 y1, Value.int .i64 y2, Value.slice a' n' c'] 50)).cell? ⟨w.heap.size + 1, 0, none⟩ = some (.int .i64 2) := by simp [go_sem]
  have j1 : ((w.alloc (Obj.cells #[Value.int .i64 2, Value.int .i64 x1, Value.int .i64 x2, Value.slice a n c] 50)).alloc (Obj.cells #[Value.int .i64 2, Value.int .i64 y1, Value.int .i64 y2, Value.slice a' n' c'] 50)).cell? ⟨w.heap.size + 1, 1, none⟩ = some (.int .i64 y1) := by simp [go_sem]
  have j2 : ((w.alloc (Obj.cells #[Value.int .i64 2, Value.int .i64 x1, Value.int .i64 x2, Value.slice a n c] 50)).alloc (Obj.cells #[Value.int .i64 2, Value.int .i64 y1, Value.int .i64 y2, Value.slice a' n' c'] 50)).cell? ⟨w.heap.size + 1, 2, none⟩ = some (.int .i64 y2) := by simp [go_sem]
  have j3 : ((w.alloc (Obj.cells #[Value.int .i64 2, Value.int .i64 x1, Value.int .i64 x2, Value.slice a n c] 50)).alloc (Obj.cells #[Value.int .i64 2, Value.int .i64 y1, Value.int .i64 y2, Value.slice a' n' c'] 50)).cell? ⟨w.heap.size + 1, 3, none⟩ = some ((.slice a' n' c')) := by simp [go_sem]
  have hmi := meth2
  go_enter Tryz.func61, Tryz.ntmps61
  go_wp2_with fail
  refine wp_region_wk (fun w' => Mk0 ((w.alloc (Obj.cells #[Value.int .i64 2, Value.int .i64 x1, Value.int .i64 x2, Value.slice a n c] 50)).alloc (Obj.cells #[Value.int .i64 2, Value.int .i64 y1, Value.int .i64 y2, Value.slice a' n' c'] 50)) w' ∧ w'.cell? ⟨w.heap.size, 0, none⟩ = some (.int .i64 2) ∧ w'.cell? ⟨w.heap.size, 1, none⟩ = some (.int .i64 x1) ∧ w'.cell? ⟨w.heap.size, 2, none⟩ = some (.int .i64 x2) ∧ w'.cell? ⟨w.heap.size, 3, none⟩ = some (.slice a n c) ∧ w'.cell? ⟨w.heap.size + 1, 0, none⟩ = some (.int .i64 2) ∧ w'.cell? ⟨w.heap.size + 1, 1, none⟩ = some (.int .i64 y1) ∧ w'.cell? ⟨w.heap.size + 1, 2, none⟩ = some (.int .i64 y2) ∧ w'.cell? ⟨w.heap.size + 1, 3, none⟩ = some ((.slice a' n' c'))) (by kernel_rfl) (by kernel_rfl) (⟨Mk.drew1 _, k0, k1, k2, k3, j0, j1, j2, j3⟩) ?_
  change Wk _ _ _ _ 17 0 _
  first | (refine Wk.skip (m := 16) (k := 0) rfl (by rfl) ?_) | (refine Wk.step (m := 16) (k := 0) (v := _) rfl (by rfl) (fun wv hS => by obtain ⟨s0, s1, s2, s3, s4, s5, s6, s7, s8⟩ := hS; go_simp; try with_reducible rfl) ?_)
  try simp only [Act.put, List.getElem_toArray, List.getElem_cons_zero, List.setIfInBounds_toArray, List.set_cons_zero, List.set_cons_succ]
  first | (refine Wk.skip (m := 15) (k := 1) rfl (by rfl) ?_) | (refine Wk.step (m := 15) (k := 1) (v := _) rfl (by rfl) (fun wv hS => by obtain ⟨s0, s1, s2, s3, s4, s5, s6, s7, s8⟩ := hS; go_simp; try with_reducible rfl) ?_)
  try simp only [Act.put, List.getElem_toArray, List.getElem_cons_succ, List.getElem_cons_zero, List.setIfInBounds_toArray, List.set_cons_zero, List.set_cons_succ]
  refine Wk.call (m := 14) (k := 2) (v := .iface 134 (.agg #[])) _ _ rfl (by rfl) (fun wv hS => by obtain ⟨s0, s1, s2, s3, s4, s5, s6, s7, s8⟩ := hS; go_simp; first | done | exact ⟨rfl, rfl⟩ | with_reducible rfl) (fun wv hS => ?_) ?_; · obtain ⟨s0, s1, s2, s3, s4, s5, s6, s7, s8⟩ := hS; refine (kindIs2 wv).mono ?_; rintro e w' ⟨he, mm⟩; exact ⟨he, ⟨s0.trans mm, mm.cellAt s1, mm.cellAt s2, mm.cellAt s3, mm.cellAt s4, mm.cellAt s5, mm.cellAt s6, mm.cellAt s7, mm.cellAt s8⟩⟩
  try simp only [Act.put, List.getElem_toArray, List.getElem_cons_succ, List.getElem_cons_zero, List.setIfInBounds_toArray, List.set_cons_zero, List.set_cons_succ]
  refine Wk.call (m := 13) (k := 3) (v := .int .i64 1) _ _ rfl (by rfl) (fun wv hS => by obtain ⟨s0, s1, s2, s3, s4, s5, s6, s7, s8⟩ := hS; go_simp; first | done | exact ⟨rfl, rfl⟩ | with_reducible rfl) (fun wv hS => ?_) ?_; · obtain ⟨s0, s1, s2, s3, s4, s5, s6, s7, s8⟩ := hS; refine (place2 wv).mono ?_; rintro e w' ⟨he, mm⟩; exact ⟨he, ⟨s0.trans mm, mm.cellAt s1, mm.cellAt s2, mm.cellAt s3, mm.cellAt s4, mm.cellAt s5, mm.cellAt s6, mm.cellAt s7, mm.cellAt s8⟩⟩
  try simp only [Act.put, List.getElem_toArray, List.getElem_cons_succ, List.getElem_cons_zero, List.setIfInBounds_toArray, List.set_cons_zero, List.set_cons_succ]
  first | (refine Wk.skip (m := 12) (k := 4) rfl (by rfl) ?_) | (refine Wk.step (m := 12) (k := 4) (v := _) rfl (by rfl) (fun wv hS => by obtain ⟨s0, s1, s2, s3, s4, s5, s6, s7, s8⟩ := hS; go_simp; try with_reducible rfl) ?_)
  try simp only [Act.put, List.getElem_toArray, List.getElem_cons_succ, List.getElem_cons_zero, List.setIfInBounds_toArray, List.set_cons_zero, List.set_cons_succ]
  first | (refine Wk.skip (m := 11) (k := 5) rfl (by rfl) ?_) | (refine Wk.step (m := 11) (k := 5) (v := _) rfl (by rfl) (fun wv hS => by obtain ⟨s0, s1, s2, s3, s4, s5, s6, s7, s8⟩ := hS; go_simp; try with_reducible rfl) ?_)
  try simp only [Act.put, List.getElem_toArray, List.getElem_cons_succ, List.getElem_cons_zero, List.setIfInBounds_toArray, List.set_cons_zero, List.set_cons_succ]
  refine Wk.call (m := 10) (k := 6) (v := .iface 134 (.agg #[])) _ _ rfl (by rfl) (fun wv hS => by obtain ⟨s0, s1, s2, s3, s4, s5, s6, s7, s8⟩ := hS; go_simp; first | done | exact ⟨rfl, rfl⟩ | with_reducible rfl) (fun wv hS => ?_) ?_; · obtain ⟨s0, s1, s2, s3, s4, s5, s6, s7, s8⟩ := hS; refine (kindIs2 wv).mono ?_; rintro e w' ⟨he, mm⟩; exact ⟨he, ⟨s0.trans mm, mm.cellAt s1, mm.cellAt s2, mm.cellAt s3, mm.cellAt s4, mm.cellAt s5, mm.cellAt s6, mm.cellAt s7, mm.cellAt s8⟩⟩
  try simp only [Act.put, List.getElem_toArray, List.getElem_cons_succ, List.getElem_cons_zero, List.setIfInBounds_toArray, List.set_cons_zero, List.set_cons_succ]
  refine Wk.call (m := 9) (k := 7) (v := .int .i64 1) _ _ rfl (by rfl) (fun wv hS => by obtain ⟨s0, s1, s2, s3, s4, s5, s6, s7, s8⟩ := hS; go_simp; first | done | exact ⟨rfl, rfl⟩ | with_reducible rfl) (fun wv hS => ?_) ?_; · obtain ⟨s0, s1, s2, s3, s4, s5, s6, s7, s8⟩ := hS; refine (place2 wv).mono ?_; rintro e w' ⟨he, mm⟩; exact ⟨he, ⟨s0.trans mm, mm.cellAt s1, mm.cellAt s2, mm.cellAt s3, mm.cellAt s4, mm.cellAt s5, mm.cellAt s6, mm.cellAt s7, mm.cellAt s8⟩⟩
  try simp only [Act.put, List.getElem_toArray, List.getElem_cons_succ, List.getElem_cons_zero, List.setIfInBounds_toArray, List.set_cons_zero, List.set_cons_succ]
  first | (refine Wk.skip (m := 8) (k := 8) rfl (by rfl) ?_) | (refine Wk.step (m := 8) (k := 8) (v := _) rfl (by rfl) (fun wv hS => by obtain ⟨s0, s1, s2, s3, s4, s5, s6, s7, s8⟩ := hS; go_simp; try with_reducible rfl) ?_)
  try simp only [Act.put, List.getElem_toArray, List.getElem_cons_succ, List.getElem_cons_zero, List.setIfInBounds_toArray, List.set_cons_zero, List.set_cons_succ]
  first | (refine Wk.skip (m := 7) (k := 9) rfl (by rfl) ?_) | (refine Wk.step (m := 7) (k := 9) (v := _) rfl (by rfl) (fun wv hS => by obtain ⟨s0, s1, s2, s3, s4, s5, s6, s7, s8⟩ := hS; go_simp; try with_reducible rfl) ?_)
  try simp only [Act.put, List.getElem_toArray, List.getElem_cons_succ, List.getElem_cons_zero, List.setIfInBounds_toArray, List.set_cons_zero, List.set_cons_succ]
  first | (refine Wk.skip (m := 6) (k := 10) rfl (by rfl) ?_) | (refine Wk.step (m := 6) (k := 10) (v := _) rfl (by rfl) (fun wv hS => by obtain ⟨s0, s1, s2, s3, s4, s5, s6, s7, s8⟩ := hS; go_simp; try with_reducible rfl) ?_)
  try simp only [Act.put, List.getElem_toArray, List.getElem_cons_succ, List.getElem_cons_zero, List.setIfInBounds_toArray, List.set_cons_zero, List.set_cons_succ]
  refine Wk.skip (m := 5) (k := 11) rfl (by rfl) ?_
  try simp only [Act.put, List.getElem_toArray, List.getElem_cons_succ, List.getElem_cons_zero, List.setIfInBounds_toArray, List.set_cons_zero, List.set_cons_succ]
  first | (refine Wk.skip (m := 4) (k := 12) rfl (by rfl) ?_) | (refine Wk.step (m := 4) (k := 12) (v := _) rfl (by rfl) (fun wv hS => by obtain ⟨s0, s1, s2, s3, s4, s5, s6, s7, s8⟩ := hS; go_simp; try with_reducible rfl) ?_)
  try simp only [Act.put, List.getElem_toArray, List.getElem_cons_succ, List.getElem_cons_zero, List.setIfInBounds_toArray, List.set_cons_zero, List.set_cons_succ]
  refine Wk.skip (m := 3) (k := 13) rfl (by rfl) ?_
  try simp only [Act.put, List.getElem_toArray, List.getElem_cons_succ, List.getElem_cons_zero, List.setIfInBounds_toArray, List.set_cons_zero, List.set_cons_succ]
  refine Wk.skip (m := 2) (k := 14) rfl (by rfl) ?_
  try simp only [Act.put, List.getElem_toArray, List.getElem_cons_succ, List.getElem_cons_zero, List.setIfInBounds_toArray, List.set_cons_zero, List.set_cons_succ]
  first | (refine Wk.skip (m := 1) (k := 15) rfl (by rfl) ?_) | (refine Wk.step (m := 1) (k := 15) (v := _) rfl (by rfl) (fun wv hS => by obtain ⟨s0, s1, s2, s3, s4, s5, s6, s7, s8⟩ := hS; go_simp; try with_reducible rfl) ?_)
  try simp only [Act.put, List.getElem_toArray, List.getElem_cons_succ, List.getElem_cons_zero, List.setIfInBounds_toArray, List.set_cons_zero, List.set_cons_succ]
  first | (refine Wk.skip (m := 0) (k := 16) rfl (by rfl) ?_) | (refine Wk.step (m := 0) (k := 16) (v := _) rfl (by rfl) (fun wv hS => by obtain ⟨s0, s1, s2, s3, s4, s5, s6, s7, s8⟩ := hS; go_simp; try with_reducible rfl) ?_)
  try simp only [Act.put, List.getElem_toArray, List.getElem_cons_succ, List.getElem_cons_zero, List.setIfInBounds_toArray, List.set_cons_zero, List.set_cons_succ]
  refine Wk.done fun wE hE => ?_
  clear k0 k1 k2 k3 j0 j1 j2 j3
  obtain ⟨mE, k0, k1, k2, k3, j0, j1, j2, j3⟩ := hE
  go_wp2_with fail
  go_ret
  exact ⟨rfl, M0.trans mE⟩

set_option maxRecDepth 100000 in
set_option maxHeartbeats 4000000 in
theorem implMay23 (x1 x2 : Int) (a : Option Addr) (n c B : Nat) (zs : List THop) (y1 y2 : Int) (a' : Option Addr) (n' c' B' : Nat) (zs' : List THop) (w : World) (h : HasHop w B a n zs) (hB : B ≤ w.heap.size) (hn : n ≤ 1048576) (h' : HasHop w B' a' n' zs') (hB' : B' ≤ w.heap.size) (hn' : n' ≤ 1048576) :
    Calls Tryz.prog 61 #[.agg #[.int .i64 2, .int .i64 x1, .int .i64 x2, .slice a n c], .agg #[.int .i64 3, .int .i64 y1, .int .i64 y2, .slice a' n' c']] w fun e w' => e = .returned (.bool (false)) ∧ Mk0 w w' := by
  have M0 := (Mk.alloc w (Obj.cells #[Value.int .i64 2, Value.int .i64 x1, Value.int .i64 x2, Value.slice a n c] 50)).new (Obj.cells #[Value.int .i64 3, Value.int .i64 y1, Value.int .i64 y2, Value.slice a' n' c'] 50)
  have k0 : ((w.alloc (Obj.cells #[Value.int .i64 2, Value.int .i64 x1, Value.int .i64 x2, Value.slice a n c] 50)).alloc (Obj.cells #[Value.int .i64 3, Value.int .i64 y1, Value.int .i64 y2, Value.slice a' n' c'] 50)).cell? ⟨w.heap.size, 0, none⟩ = some (.int .i64 2) := by simp [go_sem]
  have k1 : ((w.alloc (Obj.cells #[Value.int .i64 2, Value.int .i64 x1, Value.int .i64 x2, Value.slice a n c] 50)).alloc (Obj.cells #[Value.int .i64 3, Value.int .i64 y1, Value.int .i64 y2, Value.slice a' n' c'] 50)).cell? ⟨w.heap.size, 1, none⟩ = some (.int .i64 x1) := by simp [go_sem]
  have k2 : ((w.alloc (Obj.cells #[Value.int .i64 2, Value.int .i64 x1, Value.int .i64 x2, Value.slice a n c] 50)).alloc (Obj.cells #[Value.int .i64 3, Value.int .i64 y1, Value.int .i64 y2, Value.slice a' n' c'] 50)).cell? ⟨w.heap.size, 2, none⟩ = some (.int .i64 x2) := by simp [go_sem]
  have k3 : ((w.alloc (Obj.cells #[Value.int .i64 2, Value.int .i64 x1, Value.int .i64 x2, Value.slice a n c] 50)).alloc (Obj.cells #[Value.int .i64 3, Value.int .i64 y1, Value.int .i64 y2, Value.slice a' n' c'] 50)).cell? ⟨w.heap.size, 3, none⟩ = some (.slice a n c) := by simp [go_sem]
  have j0 : ((w.alloc (Obj.cells #[Value.int .i64 2, Value.int .i64 x1, Value.int .i64 x2, Value.slice a n c] 50)).alloc (Obj.cells #[Value.int .i64 3, Value.int .i64 y1, Value.int .i64 y2, Value.slice a' n' c'] 50)).cell? ⟨w.heap.size + 1, 0, none⟩ = some (.int .i64 3) := by simp [go_sem]
  have j1 : ((w.alloc (Obj.cells #[Value.int .i64 2, Value.int .i64 x1, Value.int .i64 x2, Value.slice a n c] 50)).alloc (Obj.cells #[Value.int .i64 3, Value.int .i64 y1, Value.int .i64 y2, Value.slice a' n' c'] 50)).cell? ⟨w.heap.size + 1, 1, none⟩ = some (.int .i64 y1) := by simp [go_sem]
  have j2 : ((w.alloc (Obj.cells #[Value.int .i64 2, Value.int .i64 x1, Value.int .i64 x2, Value.slice a n c] 50)).alloc (Obj.cells #[Value.int .i64 3, Value.int .i64 y1, Value.int .i64 y2, Value.slice a' n' c'] 50)).cell? ⟨w.heap.size + 1, 2, none⟩ = some (.int .i64 y2) := by simp [go_sem]
  have j3 : ((w.alloc (Obj.cells #[Value.int .i64 2, Value.int .i64 x1, Value.int .i64 x2, Value.slice a n c] 50)).alloc (Obj.cells #[Value.int .i64 3, Value.int .i64 y1, Value.int .i64 y2, Value.slice a' n' c'] 50)).cell? ⟨w.heap.size + 1, 3, none⟩ = some ((.slice a' n' c')) := by simp [go_sem]
  have hmi := meth2
  have hmj := meth3
  go_enter Tryz.func61, Tryz.ntmps61
  go_wp2_with fail
  refine wp_region_wk (fun w' => Mk0 ((w.alloc (Obj.cells #[Value.int .i64 2, Value.int .i64 x1, Value.int .i64 x2, Value.slice a n c] 50)).alloc (Obj.cells #[Value.int .i64 3, Value.int .i64 y1, Value.int .i64 y2, Value.slice a' n' c'] 50)) w' ∧ w'.cell? ⟨w.heap.size, 0, none⟩ = some (.int .i64 2) ∧ w'.cell? ⟨w.heap.size, 1, none⟩ = some (.int .i64 x1) ∧ w'.cell? ⟨w.heap.size, 2, none⟩ = some (.int .i64 x2) ∧ w'.cell? ⟨w.heap.size, 3, none⟩ = some (.slice a n c) ∧ w'.cell? ⟨w.heap.size + 1, 0, none⟩ = some (.int .i64 3) ∧ w'.cell? ⟨w.heap.size + 1, 1, none⟩ = some (.int .i64 y1) ∧ w'.cell? ⟨w.heap.size + 1, 2, none⟩ = some (.int .i64 y2) ∧ w'.cell? ⟨w.heap.size + 1, 3, none⟩ = some ((.slice a' n' c'))) (by kernel_rfl) (by kernel_rfl) (⟨Mk.drew1 _, k0, k1, k2, k3, j0, j1, j2, j3⟩) ?_
  change Wk _ _ _ _ 17 0 _
  first | (refine Wk.skip (m := 16) (k := 0) rfl (by rfl) ?_) | (refine Wk.step (m := 16) (k := 0) (v := _) rfl (by rfl) (fun wv hS => by obtain ⟨s0, s1, s2, s3, s4, s5, s6, s7, s8⟩ := hS; go_simp; try with_reducible rfl) ?_)
  try simp only [Act.put, List.getElem_toArray, List.getElem_cons_zero, List.setIfInBounds_toArray, List.set_cons_zero, List.set_cons_succ]
  first | (refine Wk.skip (m := 15) (k := 1) rfl (by rfl) ?_) | (refine Wk.step (m := 15) (k := 1) (v := _) rfl (by rfl) (fun wv hS => by obtain ⟨s0, s1, s2, s3, s4, s5, s6, s7, s8⟩ := hS; go_simp; try with_reducible rfl) ?_)
  try simp only [Act.put, List.getElem_toArray, List.getElem_cons_succ, List.getElem_cons_zero, List.setIfInBounds_toArray, List.set_cons_zero, List.set_cons_succ]
  refine Wk.call (m := 14) (k := 2) (v := .iface 134 (.agg #[])) _ _ rfl (by rfl) (fun wv hS => by obtain ⟨s0, s1, s2, s3, s4, s5, s6, s7, s8⟩ := hS; go_simp; first | done | exact ⟨rfl, rfl⟩ | with_reducible rfl) (fun wv hS => ?_) ?_; · obtain ⟨s0, s1, s2, s3, s4, s5, s6, s7, s8⟩ := hS; refine (kindIs2 wv).mono ?_; rintro e w' ⟨he, mm⟩; exact ⟨he, ⟨s0.trans mm, mm.cellAt s1, mm.cellAt s2, mm.cellAt s3, mm.cellAt s4, mm.cellAt s5, mm.cellAt s6, mm.cellAt s7, mm.cellAt s8⟩⟩
  try simp only [Act.put, List.getElem_toArray, List.getElem_cons_succ, List.getElem_cons_zero, List.setIfInBounds_toArray, List.set_cons_zero, List.set_cons_succ]
  refine Wk.call (m := 13) (k := 3) (v := .int .i64 1) _ _ rfl (by rfl) (fun wv hS => by obtain ⟨s0, s1, s2, s3, s4, s5, s6, s7, s8⟩ := hS; go_simp; first | done | exact ⟨rfl, rfl⟩ | with_reducible rfl) (fun wv hS => ?_) ?_; · obtain ⟨s0, s1, s2, s3, s4, s5, s6, s7, s8⟩ := hS; refine (place2 wv).mono ?_; rintro e w' ⟨he, mm⟩; exact ⟨he, ⟨s0.trans mm, mm.cellAt s1, mm.cellAt s2, mm.cellAt s3, mm.cellAt s4, mm.cellAt s5, mm.cellAt s6, mm.cellAt s7, mm.cellAt s8⟩⟩
  try simp only [Act.put, List.getElem_toArray, List.getElem_cons_succ, List.getElem_cons_zero, List.setIfInBounds_toArray, List.set_cons_zero, List.set_cons_succ]
  first | (refine Wk.skip (m := 12) (k := 4) rfl (by rfl) ?_) | (refine Wk.step (m := 12) (k := 4) (v := _) rfl (by rfl) (fun wv hS => by obtain ⟨s0, s1, s2, s3, s4, s5, s6, s7, s8⟩ := hS; go_simp; try with_reducible rfl) ?_)
  try simp only [Act.put, List.getElem_toArray, List.getElem_cons_succ, List.getElem_cons_zero, List.setIfInBounds_toArray, List.set_cons_zero, List.set_cons_succ]
  first | (refine Wk.skip (m := 11) (k := 5) rfl (by rfl) ?_) | (refine Wk.step (m := 11) (k := 5) (v := _) rfl (by rfl) (fun wv hS => by obtain ⟨s0, s1, s2, s3, s4, s5, s6, s7, s8⟩ := hS; go_simp; try with_reducible rfl) ?_)
  try simp only [Act.put, List.getElem_toArray, List.getElem_cons_succ, List.getElem_cons_zero, List.setIfInBounds_toArray, List.set_cons_zero, List.set_cons_succ]
  refine Wk.call (m := 10) (k := 6) (v := .iface 135 (.agg #[])) _ _ rfl (by rfl) (fun wv hS => by obtain ⟨s0, s1, s2, s3, s4, s5, s6, s7, s8⟩ := hS; go_simp; first | done | exact ⟨rfl, rfl⟩ | with_reducible rfl) (fun wv hS => ?_) ?_; · obtain ⟨s0, s1, s2, s3, s4, s5, s6, s7, s8⟩ := hS; refine (kindIs3 wv).mono ?_; rintro e w' ⟨he, mm⟩; exact ⟨he, ⟨s0.trans mm, mm.cellAt s1, mm.cellAt s2, mm.cellAt s3, mm.cellAt s4, mm.cellAt s5, mm.cellAt s6, mm.cellAt s7, mm.cellAt s8⟩⟩
  try simp only [Act.put, List.getElem_toArray, List.getElem_cons_succ, List.getElem_cons_zero, List.setIfInBounds_toArray, List.set_cons_zero, List.set_cons_succ]
  refine Wk.call (m := 9) (k := 7) (v := .int .i64 1) _ _ rfl (by rfl) (fun wv hS => by obtain ⟨s0, s1, s2, s3, s4, s5, s6, s7, s8⟩ := hS; go_simp; first | done | exact ⟨rfl, rfl⟩ | with_reducible rfl) (fun wv hS => ?_) ?_; · obtain ⟨s0, s1, s2, s3, s4, s5, s6, s7, s8⟩ := hS; refine (place3 wv).mono ?_; rintro e w' ⟨he, mm⟩; exact ⟨he, ⟨s0.trans mm, mm.cellAt s1, mm.cellAt s2, mm.cellAt s3, mm.cellAt s4, mm.cellAt s5, mm.cellAt s6, mm.cellAt s7, mm.cellAt s8⟩⟩
  try simp only [Act.put, List.getElem_toArray, List.getElem_cons_succ, List.getElem_cons_zero, List.setIfInBounds_toArray, List.set_cons_zero, List.set_cons_succ]
  first | (refine Wk.skip (m := 8) (k := 8) rfl (by rfl) ?_) | (refine Wk.step (m := 8) (k := 8) (v := _) rfl (by rfl) (fun wv hS => by obtain ⟨s0, s1, s2, s3, s4, s5, s6, s7, s8⟩ := hS; go_simp; try with_reducible rfl) ?_)
  try simp only [Act.put, List.getElem_toArray, List.getElem_cons_succ, List.getElem_cons_zero, List.setIfInBounds_toArray, List.set_cons_zero, List.set_cons_succ]
  first | (refine Wk.skip (m := 7) (k := 9) rfl (by rfl) ?_) | (refine Wk.step (m := 7) (k := 9) (v := _) rfl (by rfl) (fun wv hS => by obtain ⟨s0, s1, s2, s3, s4, s5, s6, s7, s8⟩ := hS; go_simp; try with_reducible rfl) ?_)
  try simp only [Act.put, List.getElem_toArray, List.getElem_cons_succ, List.getElem_cons_zero, List.setIfInBounds_toArray, List.set_cons_zero, List.set_cons_succ]
  first | (refine Wk.skip (m := 6) (k := 10) rfl (by rfl) ?_) | (refine Wk.step (m := 6) (k := 10) (v := _) rfl (by rfl) (fun wv hS => by obtain ⟨s0, s1, s2, s3, s4, s5, s6, s7, s8⟩ := hS; go_simp; try with_reducible rfl) ?_)
  try simp only [Act.put, List.getElem_toArray, List.getElem_cons_succ, List.getElem_cons_zero, List.setIfInBounds_toArray, List.set_cons_zero, List.set_cons_succ]
  refine Wk.skip (m := 5) (k := 11) rfl (by rfl) ?_
  try simp only [Act.put, List.getElem_toArray, List.getElem_cons_succ, List.getElem_cons_zero, List.setIfInBounds_toArray, List.set_cons_zero, List.set_cons_succ]
  first | (refine Wk.skip (m := 4) (k := 12) rfl (by rfl) ?_) | (refine Wk.step (m := 4) (k := 12) (v := _) rfl (by rfl) (fun wv hS => by obtain ⟨s0, s1, s2, s3, s4, s5, s6, s7, s8⟩ := hS; go_simp; try with_reducible rfl) ?_)
  try simp only [Act.put, List.getElem_toArray, List.getElem_cons_succ, List.getElem_cons_zero, List.setIfInBounds_toArray, List.set_cons_zero, List.set_cons_succ]
  refine Wk.skip (m := 3) (k := 13) rfl (by rfl) ?_
  try simp only [Act.put, List.getElem_toArray, List.getElem_cons_succ, List.getElem_cons_zero, List.setIfInBounds_toArray, List.set_cons_zero, List.set_cons_succ]
  refine Wk.skip (m := 2) (k := 14) rfl (by rfl) ?_
  try simp only [Act.put, List.getElem_toArray, List.getElem_cons_succ, List.getElem_cons_zero, List.setIfInBounds_toArray, List.set_cons_zero, List.set_cons_succ]
  first | (refine Wk.skip (m := 1) (k := 15) rfl (by rfl) ?_) | (refine Wk.step (m := 1) (k := 15) (v := _) rfl (by rfl) (fun wv hS => by obtain ⟨s0, s1, s2, s3, s4, s5, s6, s7, s8⟩ := hS; go_simp; try with_reducible rfl) ?_)
  try simp only [Act.put, List.getElem_toArray, List.getElem_cons_succ, List.getElem_cons_zero, List.setIfInBounds_toArray, List.set_cons_zero, List.set_cons_succ]
  first | (refine Wk.skip (m := 0) (k := 16) rfl (by rfl) ?_) | (refine Wk.step (m := 0) (k := 16) (v := _) rfl (by rfl) (fun wv hS => by obtain ⟨s0, s1, s2, s3, s4, s5, s6, s7, s8⟩ := hS; go_simp; try with_reducible rfl) ?_)
  try simp only [Act.put, List.getElem_toArray, List.getElem_cons_succ, List.getElem_cons_zero, List.setIfInBounds_toArray, List.set_cons_zero, List.set_cons_succ]
  refine Wk.done fun wE hE => ?_
  clear k0 k1 k2 k3 j0 j1 j2 j3
  obtain ⟨mE, k0, k1, k2, k3, j0, j1, j2, j3⟩ := hE
  go_wp2_with fail
  go_ret
  exact ⟨rfl, M0.trans mE⟩

set_option maxRecDepth 100000 in
set_option maxHeartbeats 4000000 in
theorem implMay24 (x1 x2 : Int) (a : Option Addr) (n c B : Nat) (zs : List THop) (y1 y2 : Int) (a' : Option Addr) (n' c' B' : Nat) (zs' : List THop) (w : World) (h : HasHop w B a n zs) (hB : B ≤ w.heap.size) (hn : n ≤ 1048576) (h' : HasHop w B' a' n' zs') (hB' : B' ≤ w.heap.size) (hn' : n' ≤ 1048576) :
    Calls Tryz.prog 61 #[.agg #[.int .i64 2, .int .i64 x1, .int .i64 x2, .slice a n c], .agg #[.int .i64 4, .int .i64 y1, .int .i64 y2, .slice a' n' c']] w fun e w' => e = .returned (.bool (meetB (stL (⟨2, x1, x2, zs⟩ : TPathPart) n) (stL (⟨4, y1, y2, zs'⟩ : TPathPart) n'))) ∧ Mk0 w w' := by
  have M0 := (Mk.alloc w (Obj.cells #[Value.int .i64 2, Value.int .i64 x1, Value.int .i64 x2, Value.slice a n c] 50)).new (Obj.cells #[Value.int .i64 4, Value.int .i64 y1, Value.int .i64 y2, Value.slice a' n' c'] 50)
  have k0 : ((w.alloc (Obj.cells #[Value.int .i64 2, Value.int .i64 x1, Value.int .i64 x2, Value.slice a n c] 50)).alloc (Obj.cells #[Value.int .i64 4, Value.int .i64 y1, Value.int .i64 y2, Value.slice a' n' c'] 50)).cell? ⟨w.heap.size, 0, none⟩ = some (.int .i64 2) := by simp [go_sem]
  have k1 : ((w.alloc (Obj.cells #[Value.int .i64 2, Value.int .i64 x1, Value.int .i64 x2, Value.slice a n c] 50)).alloc (Obj.cells #[Value.int .i64 4, Value.int .i64 y1, Value.int .i64 y2, Value.slice a' n' c'] 50)).cell? ⟨w.heap.size, 1, none⟩ = some (.int .i64 x1) := by simp [go_sem]
  have k2 : ((w.alloc (Obj.cells #[Value.int .i64 2, Value.int .i64 x1, Value.int .i64 x2, Value.slice a n c] 50)).alloc (Obj.cells #[Value.int .i64 4, Value.int .i64 y1, Value.int .i64 y2, Value.slice a' n' c'] 50)).cell? ⟨w.heap.size, 2, none⟩ = some (.int .i64 x2) := by simp [go_sem]
  have k3 : ((w.alloc (Obj.cells #[Value.int .i64 2, Value.int .i64 x1, Value.int .i64 x2, Value.slice a n c] 50)).alloc (Obj.cells #[Value.int .i64 4, Value.int .i64 y1, Value.int .i64 y2, Value.slice a' n' c'] 50)).cell? ⟨w.heap.size, 3, none⟩ = some (.slice a n c) := by simp [go_sem]
  have j0 : ((w.alloc (Obj.cells #[Value.int .i64 2, Value.int .i64 x1, Value.int .i64 x2, Value.slice a n c] 50)).alloc (Obj.cells #[Value.int .i64 4, Value.int .i64 y1, Value.int .i64 y2, Value.slice a' n' c'] 50)).cell? ⟨w.heap.size + 1, 0, none⟩ = some (.int .i64 4) := by simp [go_sem]
  have j1 : ((w.alloc (Obj.cells #[Value.int .i64 2, Value.int .i64 x1, Value.int .i64 x2, Value.slice a n c] 50)).alloc (Obj.cells #[Value.int .i64 4, Value.int .i64 y1, Value.int .i64 y2, Value.slice a' n' c'] 50)).cell? ⟨w.heap.size + 1, 1, none⟩ = some (.int .i64 y1) := by simp [go_sem]
  have j2 : ((w.alloc (Obj.cells #[Value.int .i64 2, Value.int .i64 x1, Value.int .i64 x2, Value.slice a n c] 50)).alloc (Obj.cells #[Value.int .i64 4, Value.int .i64 y1, Value.int .i64 y2, Value.slice a' n' c'] 50)).cell? ⟨w.heap.size + 1, 2, none⟩ = some (.int .i64 y2) := by simp [go_sem]
  have j3 : ((w.alloc (Obj.cells #[Value.int .i64 2, Value.int .i64 x1, Value.int .i64 x2, Value.slice a n c] 50)).alloc (Obj.cells #[Value.int .i64 4, Value.int .i64 y1, Value.int .i64 y2, Value.slice a' n' c'] 50)).cell? ⟨w.heap.size + 1, 3, none⟩ = some ((.slice a' n' c')) := by simp [go_sem]
  have hmi := meth2
  have hmj := meth4
  have e1 : ∀ w', Mk0 ((w.alloc (Obj.cells #[Value.int .i64 2, Value.int .i64 x1, Value.int .i64 x2, Value.slice a n c] 50)).alloc (Obj.cells #[Value.int .i64 4, Value.int .i64 y1, Value.int .i64 y2, Value.slice a' n' c'] 50)) w' → HasHop w' B a n zs := fun w' m => h.mk (M0.trans m) hB (.inr (Nat.le_refl _))
  have e2 : ∀ w', Mk0 ((w.alloc (Obj.cells #[Value.int .i64 2, Value.int .i64 x1, Value.int .i64 x2, Value.slice a n c] 50)).alloc (Obj.cells #[Value.int .i64 4, Value.int .i64 y1, Value.int .i64 y2, Value.slice a' n' c'] 50)) w' → HasHop w' B' a' n' zs' := fun w' m => h'.mk (M0.trans m) hB' (.inr (Nat.le_refl _))
  have e3 : ∀ w', Mk0 ((w.alloc (Obj.cells #[Value.int .i64 2, Value.int .i64 x1, Value.int .i64 x2, Value.slice a n c] 50)).alloc (Obj.cells #[Value.int .i64 4, Value.int .i64 y1, Value.int .i64 y2, Value.slice a' n' c'] 50)) w' → B ≤ w'.heap.size := fun w' m => Nat.le_trans hB (M0.trans m).size
  have e4 : ∀ w', Mk0 ((w.alloc (Obj.cells #[Value.int .i64 2, Value.int .i64 x1, Value.int .i64 x2, Value.slice a n c] 50)).alloc (Obj.cells #[Value.int .i64 4, Value.int .i64 y1, Value.int .i64 y2, Value.slice a' n' c'] 50)) w' → B' ≤ w'.heap.size := fun w' m => Nat.le_trans hB' (M0.trans m).size
  go_enter Tryz.func61, Tryz.ntmps61
  go_wp2_with fail
  go_region_held3 (fun w' => Mk0 ((w.alloc (Obj.cells #[Value.int .i64 2, Value.int .i64 x1, Value.int .i64 x2, Value.slice a n c] 50)).alloc (Obj.cells #[Value.int .i64 4, Value.int .i64 y1, Value.int .i64 y2, Value.slice a' n' c'] 50)) w' ∧ w'.cell? ⟨w.heap.size, 0, none⟩ = some (.int .i64 2) ∧ w'.cell? ⟨w.heap.size, 1, none⟩ = some (.int .i64 x1) ∧ w'.cell? ⟨w.heap.size, 2, none⟩ = some (.int .i64 x2) ∧ w'.cell? ⟨w.heap.size, 3, none⟩ = some (.slice a n c) ∧ w'.cell? ⟨w.heap.size + 1, 0, none⟩ = some (.int .i64 4) ∧ w'.cell? ⟨w.heap.size + 1, 1, none⟩ = some (.int .i64 y1) ∧ w'.cell? ⟨w.heap.size + 1, 2, none⟩ = some (.int .i64 y2) ∧ w'.cell? ⟨w.heap.size + 1, 3, none⟩ = some ((.slice a' n' c'))) (first | exact ⟨Mk.drew1 _, k0, k1, k2, k3, j0, j1, j2, j3⟩ | (obtain ⟨s0, s1, s2, s3, s4, s5, s6, s7, s8⟩ := ‹Mk0 ((w.alloc (Obj.cells #[Value.int .i64 2, Value.int .i64 x1, Value.int .i64 x2, Value.slice a n c] 50)).alloc (Obj.cells #[Value.int .i64 4, Value.int .i64 y1, Value.int .i64 y2, Value.slice a' n' c'] 50)) _ ∧ _›; exact ⟨s0.trans mm, mm.cellAt s1, mm.cellAt s2, mm.cellAt s3, mm.cellAt s4, mm.cellAt s5, mm.cellAt s6, mm.cellAt s7, mm.cellAt s8⟩)) (first | (go_at_call 92; with_reducible refine (kindIs2 _).mono ?_; rintro e wk2 ⟨rfl, mm⟩) | (go_at_call 92; with_reducible refine (kindIs4 _).mono ?_; rintro e wk4 ⟨rfl, mm⟩) | (go_at_call 164; with_reducible refine (place2 _).mono ?_; rintro e wp2 ⟨rfl, mm⟩) | (go_at_call 166; with_reducible refine (place4 _).mono ?_; rintro e wp4 ⟨rfl, mm⟩) | (go_at_call 94; (with_reducible refine (implSoP 2 x1 x2 a n c B zs _ (e1 _ (‹Mk0 ((w.alloc (Obj.cells #[Value.int .i64 2, Value.int .i64 x1, Value.int .i64 x2, Value.slice a n c] 50)).alloc (Obj.cells #[Value.int .i64 4, Value.int .i64 y1, Value.int .i64 y2, Value.slice a' n' c'] 50)) _ ∧ _›).1) (e3 _ (‹Mk0 ((w.alloc (Obj.cells #[Value.int .i64 2, Value.int .i64 x1, Value.int .i64 x2, Value.slice a n c] 50)).alloc (Obj.cells #[Value.int .i64 4, Value.int .i64 y1, Value.int .i64 y2, Value.slice a' n' c'] 50)) _ ∧ _›).1) hn).mono ?_); rintro e wsA ⟨AA, NA, CA, rfl, hcA, oA, mm⟩; have qA := oA.has; have msA := mm) | (go_at_call 94; (with_reducible refine (implSoP 4 y1 y2 a' n' c' B' zs' _ (e2 _ (‹Mk0 ((w.alloc (Obj.cells #[Value.int .i64 2, Value.int .i64 x1, Value.int .i64 x2, Value.slice a n c] 50)).alloc (Obj.cells #[Value.int .i64 4, Value.int .i64 y1, Value.int .i64 y2, Value.slice a' n' c'] 50)) _ ∧ _›).1) (e4 _ (‹Mk0 ((w.alloc (Obj.cells #[Value.int .i64 2, Value.int .i64 x1, Value.int .i64 x2, Value.slice a n c] 50)).alloc (Obj.cells #[Value.int .i64 4, Value.int .i64 y1, Value.int .i64 y2, Value.slice a' n' c'] 50)) _ ∧ _›).1) hn').mono ?_); rintro e wsB ⟨AB, NB, CB, rfl, hcB, oB, mm⟩; have qB := oB.has; have msB := mm) | (go_at_call 93; have hNA : NA ≤ 2097152 := (by have := qA.1; rw [stL_len] at this; omega); have hNB : NB ≤ 2097152 := (by have := qB.1; rw [stL_len] at this; omega); refine (implMeet AA AB NA NB CA CB wsA.heap.size wsB.heap.size _ _ _ (qA.mk msB (Nat.le_refl _) (.inr (Nat.le_refl _))) qB msB.size (Nat.le_refl _) hNA hNB).mono ?_; rintro e wm ⟨rfl, mm⟩))
  have m6 := (‹Mk0 ((w.alloc (Obj.cells #[Value.int .i64 2, Value.int .i64 x1, Value.int .i64 x2, Value.slice a n c] 50)).alloc (Obj.cells #[Value.int .i64 4, Value.int .i64 y1, Value.int .i64 y2, Value.slice a' n' c'] 50)) _ ∧ _›).1
  refine ‹∀ (a : Act) (w : World), _ → _› _ _ ?_
  go_wp2_with fail
  go_ret
  exact ⟨rfl, M0.trans m6⟩

end Go.Proofs.YtifhhfndoifbhaaGreat
namespace Go.Proofs.YtifhhfndoifbhaaGreat
open Go.ChangeShapes Go.WideShapes Go.ChangeAt Go.RowKit
set_option linter.unusedVariables false
set_option maxRecDepth 100000 in
set_option maxHeartbeats 4000000 in
theorem implMay31 (x1 x2 : Int) (a : Option Addr) (n c B : Nat) (zs : List THop) (y1 y2 : Int) (a' : Option Addr) (n' c' B' : Nat) (zs' : List THop) (w : World) (h : HasHop w B a n zs) (hB : B ≤ w.heap.size) (hn : n ≤ 1048576) (h' : HasHop w B' a' n' zs') (hB' : B' ≤ w.heap.size) (hn' : n' ≤ 1048576) :
    Calls Tryz.prog 61 #[.agg #[.int .i64 3, .int .i64 x1, .int .i64 x2, .slice a n c], .agg #[.int .i64 1, .int .i64 y1, .int .i64 y2, .slice a' n' c']] w fun e w' => e = .returned (.bool (false)) ∧ Mk0 w w' := by
  have M0 := (Mk.alloc w (Obj.cells #[Value.int .i64 3, Value.int .i64 x1, Value.int .i64 x2, Value.slice a n c] 50)).new (Obj.cells #[Value.int .i64 1, Value.int .i64 y1, Value.int .i64 y2, Value.slice a' n' c'] 50)
  have k0 : ((w.alloc (Obj.cells #[Value.int .i64 3, Value.int .i64 x1, Value.int .i64 x2, Value.slice a n c] 50)).alloc (Obj.cells #[Value.int .i64 1, Value.int .i64 y1, Value.int .i64 y2, Value.slice a' n' c'] 50)).cell? ⟨w.heap.size, 0, none⟩ = some (.int .i64 3) := by simp [go_sem]
  have k1 : ((w.alloc (Obj.cells #[Value.int .i64 3, Value.int .i64 x1, Value.int .i64 x2, Value.slice a n c] 50)).alloc (Obj.cells #[Value.int .i64 1, Value.int .i64 y1, Value.int .i64 y2, Value.slice a' n' c'] 50)).cell? ⟨w.heap.size, 1, none⟩ = some (.int .i64 x1) := by simp [go_sem]
  have k2 : ((w.alloc (Obj.cells #[Value.int .i64 3, Value.int .i64 x1, Value.int .i64 x2, Value.slice a n c] 50)).alloc (Obj.cells #[Value.int .i64 1, Value.int .i64 y1, Value.int .i64 y2, Value.slice a' n' c'] 50)).cell? ⟨w.heap.size, 2, none⟩ = some (.int .i64 x2) := by simp [go_sem]
  have k3 : ((w.alloc (Obj.cells #[Value.int .i64 3, Value.int .i64 x1, Value.int .i64 x2, Value.slice a n c] 50)).alloc (Obj.cells #[Value.int .i64 1, Value.int .i64 y1, Value.int .i64 y2, Value.slice a' n' c'] 50)).cell? ⟨w.heap.size, 3, none⟩ = some (.slice a n c) := by simp [go_sem]
  have j0 : ((w.alloc (Obj.cells #[Value.int .i64 3, Value.int .i64 x1, Value.int .i64 x2, Value.slice a n c] 50)).alloc (Obj.cells #[Value.int .i64 1, Value.int .i64 y1, Value.int .i64 y2, Value.slice a' n' c'] 50)).cell? ⟨w.heap.size + 1, 0, none⟩ = some (.int .i64 1) := by simp [go_sem]
  have j1 : ((w.alloc (Obj.cells #[Value.int .i64 3, Value.int .i64 x1, Value.int .i64 x2, Value.slice a n c] 50)).alloc (Obj.cells #[Value.int .i64 1, Value.int .i64 y1, Value.int .i64 y2, Value.slice a' n' c'] 50)).cell? ⟨w.heap.size + 1, 1, none⟩ = some (.int .i64 y1) := by simp [go_sem]
  have j2 : ((w.alloc (Obj.cells #[Value.int .i64 3, Value.int .i64 x1, Value.int .i64 x2, Value.slice a n c] 50)).alloc (Obj.cells #[Value.int .i64 1, Value.int .i64 y1, Value.int .i64 y2, Value.slice a' n' c'] 50)).cell? ⟨w.heap.size + 1, 2, none⟩ = some (.int .i64 y2) := by simp [go_sem]
  have j3 : ((w.alloc (Obj.cells #[Value.int .i64 3, Value.int .i64 x1, Value.int .i64 x2, Value.slice a n c] 50)).alloc (Obj.cells #[Value.int .i64 1, Value.int .i64 y1, Value.int .i64 y2, Value.slice a' n' c'] 50)).cell? ⟨w.heap.size + 1, 3, none⟩ = some ((.slice a' n' c')) := by simp [go_sem]
  have hmi := meth3
  have hmj := meth1
  go_enter Tryz.func61, Tryz.ntmps61
  go_wp2_with fail
  refine wp_region_wk (fun w' => Mk0 ((w.alloc (Obj.cells #[Value.int .i64 3, Value.int .i64 x1, Value.int .i64 x2, Value.slice a n c] 50)).alloc (Obj.cells #[Value.int .i64 1, Value.int .i64 y1, Value.int .i64 y2, Value.slice a' n' c'] 50)) w' ∧ w'.cell? ⟨w.heap.size, 0, none⟩ = some (.int .i64 3) ∧ w'.cell? ⟨w.heap.size, 1, none⟩ = some (.int .i64 x1) ∧ w'.cell? ⟨w.heap.size, 2, none⟩ = some (.int .i64 x2) ∧ w'.cell? ⟨w.heap.size, 3, none⟩ = some (.slice a n c) ∧ w'.cell? ⟨w.heap.size + 1, 0, none⟩ = some (.int .i64 1) ∧ w'.cell? ⟨w.heap.size + 1, 1, none⟩ = some (.int .i64 y1) ∧ w'.cell? ⟨w.heap.size + 1, 2, none⟩ = some (.int .i64 y2) ∧ w'.cell? ⟨w.heap.size + 1, 3, none⟩ = some ((.slice a' n' c'))) (by kernel_rfl) (by kernel_rfl) (⟨Mk.drew1 _, k0, k1, k2, k3, j0, j1, j2, j3⟩) ?_
  change Wk _ _ _ _ 17 0 _
  first | (refine Wk.skip (m := 16) (k := 0) rfl (by rfl) ?_) | (refine Wk.step (m := 16) (k := 0) (v := _) rfl (by rfl) (fun wv hS => by obtain ⟨s0, s1, s2, s3, s4, s5, s6, s7, s8⟩ := hS; go_simp; try with_reducible rfl) ?_)
  try simp only [Act.put, List.getElem_toArray, List.getElem_cons_zero, List.setIfInBounds_toArray, List.set_cons_zero, List.set_cons_succ]
  first | (refine Wk.skip (m := 15) (k := 1) rfl (by rfl) ?_) | (refine Wk.step (m := 15) (k := 1) (v := _) rfl (by rfl) (fun wv hS => by obtain ⟨s0, s1, s2, s3, s4, s5, s6, s7, s8⟩ := hS; go_simp; try with_reducible rfl) ?_)
  try simp only [Act.put, List.getElem_toArray, List.getElem_cons_succ, List.getElem_cons_zero, List.setIfInBounds_toArray, List.set_cons_zero, List.set_cons_succ]
  refine Wk.call (m := 14) (k := 2) (v := .iface 135 (.agg #[])) _ _ rfl (by rfl) (fun wv hS => by obtain ⟨s0, s1, s2, s3, s4, s5, s6, s7, s8⟩ := hS; go_simp; first | done | exact ⟨rfl, rfl⟩ | with_reducible rfl) (fun wv hS => ?_) ?_; · obtain ⟨s0, s1, s2, s3, s4, s5, s6, s7, s8⟩ := hS; refine (kindIs3 wv).mono ?_; rintro e w' ⟨he, mm⟩; exact ⟨he, ⟨s0.trans mm, mm.cellAt s1, mm.cellAt s2, mm.cellAt s3, mm.cellAt s4, mm.cellAt s5, mm.cellAt s6, mm.cellAt s7, mm.cellAt s8⟩⟩
  try simp only [Act.put, List.getElem_toArray, List.getElem_cons_succ, List.getElem_cons_zero, List.setIfInBounds_toArray, List.set_cons_zero, List.set_cons_succ]
  refine Wk.call (m := 13) (k := 3) (v := .int .i64 1) _ _ rfl (by rfl) (fun wv hS => by obtain ⟨s0, s1, s2, s3, s4, s5, s6, s7, s8⟩ := hS; go_simp; first | done | exact ⟨rfl, rfl⟩ | with_reducible rfl) (fun wv hS => ?_) ?_; · obtain ⟨s0, s1, s2, s3, s4, s5, s6, s7, s8⟩ := hS; refine (place3 wv).mono ?_; rintro e w' ⟨he, mm⟩; exact ⟨he, ⟨s0.trans mm, mm.cellAt s1, mm.cellAt s2, mm.cellAt s3, mm.cellAt s4, mm.cellAt s5, mm.cellAt s6, mm.cellAt s7, mm.cellAt s8⟩⟩
  try simp only [Act.put, List.getElem_toArray, List.getElem_cons_succ, List.getElem_cons_zero, List.setIfInBounds_toArray, List.set_cons_zero, List.set_cons_succ]
  first | (refine Wk.skip (m := 12) (k := 4) rfl (by rfl) ?_) | (refine Wk.step (m := 12) (k := 4) (v := _) rfl (by rfl) (fun wv hS => by obtain ⟨s0, s1, s2, s3, s4, s5, s6, s7, s8⟩ := hS; go_simp; try with_reducible rfl) ?_)
  try simp only [Act.put, List.getElem_toArray, List.getElem_cons_succ, List.getElem_cons_zero, List.setIfInBounds_toArray, List.set_cons_zero, List.set_cons_succ]
  first | (refine Wk.skip (m := 11) (k := 5) rfl (by rfl) ?_) | (refine Wk.step (m := 11) (k := 5) (v := _) rfl (by rfl) (fun wv hS => by obtain ⟨s0, s1, s2, s3, s4, s5, s6, s7, s8⟩ := hS; go_simp; try with_reducible rfl) ?_)
  try simp only [Act.put, List.getElem_toArray, List.getElem_cons_succ, List.getElem_cons_zero, List.setIfInBounds_toArray, List.set_cons_zero, List.set_cons_succ]
  refine Wk.call (m := 10) (k := 6) (v := .iface 133 (.agg #[])) _ _ rfl (by rfl) (fun wv hS => by obtain ⟨s0, s1, s2, s3, s4, s5, s6, s7, s8⟩ := hS; go_simp; first | done | exact ⟨rfl, rfl⟩ | with_reducible rfl) (fun wv hS => ?_) ?_; · obtain ⟨s0, s1, s2, s3, s4, s5, s6, s7, s8⟩ := hS; refine (kindIs1 wv).mono ?_; rintro e w' ⟨he, mm⟩; exact ⟨he, ⟨s0.trans mm, mm.cellAt s1, mm.cellAt s2, mm.cellAt s3, mm.cellAt s4, mm.cellAt s5, mm.cellAt s6, mm.cellAt s7, mm.cellAt s8⟩⟩
  try simp only [Act.put, List.getElem_toArray, List.getElem_cons_succ, List.getElem_cons_zero, List.setIfInBounds_toArray, List.set_cons_zero, List.set_cons_succ]
  refine Wk.call (m := 9) (k := 7) (v := .int .i64 0) _ _ rfl (by rfl) (fun wv hS => by obtain ⟨s0, s1, s2, s3, s4, s5, s6, s7, s8⟩ := hS; go_simp; first | done | exact ⟨rfl, rfl⟩ | with_reducible rfl) (fun wv hS => ?_) ?_; · obtain ⟨s0, s1, s2, s3, s4, s5, s6, s7, s8⟩ := hS; refine (place1 wv).mono ?_; rintro e w' ⟨he, mm⟩; exact ⟨he, ⟨s0.trans mm, mm.cellAt s1, mm.cellAt s2, mm.cellAt s3, mm.cellAt s4, mm.cellAt s5, mm.cellAt s6, mm.cellAt s7, mm.cellAt s8⟩⟩
  try simp only [Act.put, List.getElem_toArray, List.getElem_cons_succ, List.getElem_cons_zero, List.setIfInBounds_toArray, List.set_cons_zero, List.set_cons_succ]
  first | (refine Wk.skip (m := 8) (k := 8) rfl (by rfl) ?_) | (refine Wk.step (m := 8) (k := 8) (v := _) rfl (by rfl) (fun wv hS => by obtain ⟨s0, s1, s2, s3, s4, s5, s6, s7, s8⟩ := hS; go_simp; try with_reducible rfl) ?_)
  try simp only [Act.put, List.getElem_toArray, List.getElem_cons_succ, List.getElem_cons_zero, List.setIfInBounds_toArray, List.set_cons_zero, List.set_cons_succ]
  first | (refine Wk.skip (m := 7) (k := 9) rfl (by rfl) ?_) | (refine Wk.step (m := 7) (k := 9) (v := _) rfl (by rfl) (fun wv hS => by obtain ⟨s0, s1, s2, s3, s4, s5, s6, s7, s8⟩ := hS; go_simp; try with_reducible rfl) ?_)
  try simp only [Act.put, List.getElem_toArray, List.getElem_cons_succ, List.getElem_cons_zero, List.setIfInBounds_toArray, List.set_cons_zero, List.set_cons_succ]
  first | (refine Wk.skip (m := 6) (k := 10) rfl (by rfl) ?_) | (refine Wk.step (m := 6) (k := 10) (v := _) rfl (by rfl) (fun wv hS => by obtain ⟨s0, s1, s2, s3, s4, s5, s6, s7, s8⟩ := hS; go_simp; try with_reducible rfl) ?_)
  try simp only [Act.put, List.getElem_toArray, List.getElem_cons_succ, List.getElem_cons_zero, List.setIfInBounds_toArray, List.set_cons_zero, List.set_cons_succ]
  refine Wk.skip (m := 5) (k := 11) rfl (by rfl) ?_
  try simp only [Act.put, List.getElem_toArray, List.getElem_cons_succ, List.getElem_cons_zero, List.setIfInBounds_toArray, List.set_cons_zero, List.set_cons_succ]
  first | (refine Wk.skip (m := 4) (k := 12) rfl (by rfl) ?_) | (refine Wk.step (m := 4) (k := 12) (v := _) rfl (by rfl) (fun wv hS => by obtain ⟨s0, s1, s2, s3, s4, s5, s6, s7, s8⟩ := hS; go_simp; try with_reducible rfl) ?_)
  try simp only [Act.put, List.getElem_toArray, List.getElem_cons_succ, List.getElem_cons_zero, List.setIfInBounds_toArray, List.set_cons_zero, List.set_cons_succ]
  refine Wk.skip (m := 3) (k := 13) rfl (by rfl) ?_
  try simp only [Act.put, List.getElem_toArray, List.getElem_cons_succ, List.getElem_cons_zero, List.setIfInBounds_toArray, List.set_cons_zero, List.set_cons_succ]
  refine Wk.skip (m := 2) (k := 14) rfl (by rfl) ?_
  try simp only [Act.put, List.getElem_toArray, List.getElem_cons_succ, List.getElem_cons_zero, List.setIfInBounds_toArray, List.set_cons_zero, List.set_cons_succ]
  first | (refine Wk.skip (m := 1) (k := 15) rfl (by rfl) ?_) | (refine Wk.step (m := 1) (k := 15) (v := _) rfl (by rfl) (fun wv hS => by obtain ⟨s0, s1, s2, s3, s4, s5, s6, s7, s8⟩ := hS; go_simp; try with_reducible rfl) ?_)
  try simp only [Act.put, List.getElem_toArray, List.getElem_cons_succ, List.getElem_cons_zero, List.setIfInBounds_toArray, List.set_cons_zero, List.set_cons_succ]
  first | (refine Wk.skip (m := 0) (k := 16) rfl (by rfl) ?_) | (refine Wk.step (m := 0) (k := 16) (v := _) rfl (by rfl) (fun wv hS => by obtain ⟨s0, s1, s2, s3, s4, s5, s6, s7, s8⟩ := hS; go_simp; try with_reducible rfl) ?_)
  try simp only [Act.put, List.getElem_toArray, List.getElem_cons_succ, List.getElem_cons_zero, List.setIfInBounds_toArray, List.set_cons_zero, List.set_cons_succ]
  refine Wk.done fun wE hE => ?_
  clear k0 k1 k2 k3 j0 j1 j2 j3
  obtain ⟨mE, k0, k1, k2, k3, j0, j1, j2, j3⟩ := hE
  go_wp2_with fail
  go_ret
  exact ⟨rfl, M0.trans mE⟩

set_option maxRecDepth 100000 in
set_option maxHeartbeats 4000000 in
theorem implMay32 (x1 x2 : Int) (a : Option Addr) (n c B : Nat) (zs : List THop) (y1 y2 : Int) (a' : Option Addr) (n' c' B' : Nat) (zs' : List THop) (w : World) (h : HasHop w B a n zs) (hB : B ≤ w.heap.size) (hn : n ≤ 1048576) (h' : HasHop w B' a' n' zs') (hB' : B' ≤ w.heap.size) (hn' : n' ≤ 1048576) :
    Calls Tryz.prog 61 #[.agg #[.int .i64 3, .int .i64 x1, .int .i64 x2, .slice a n c], .agg #[.int .i64 2, .int .i64 y1, .int .i64 y2, .slice a' n' c']] w fun e w' => e = .returned (.bool (false)) ∧ Mk0 w w' := by
  have M0 := (Mk.alloc w (Obj.cells #[Value.int .i64 3, Value.int .i64 x1, Value.int .i64 x2, Value.slice a n c] 50)).new (Obj.cells #[Value.int .i64 2, Value.int .i64 y1, Value.int .i64 y2, Value.slice a' n' c'] 50)
  have k0 : ((w.alloc (Obj.cells #[Value.int .i64 3, Value.int .i64 x1, Value.int .i64 x2, Value.slice a n c] 50)).alloc (Obj.cells #[Value.int .i64 2, Value.int .i64 y1, Value.int .i64 y2, Value.slice a' n' c'] 50)).cell? ⟨w.heap.size, 0, none⟩ = some (.int .i64 3) := by simp [go_sem]
  have k1 : ((w.alloc (Obj.cells #[Value.int .i64 3, Value.int .i64 x1, Value.int .i64 x2, Value.slice a n c] 50)).alloc (Obj.cells #[Value.int .i64 2, Value.int .i64 y1, Value.int .i64 y2, Value.slice a' n' c'] 50)).cell? ⟨w.heap.size, 1, none⟩ = some (.int .i64 x1) := by simp [go_sem]
  have k2 : ((w.alloc (Obj.cells #[Value.int .i64 3, Value.int .i64 x1, Value.int .i64 x2, Value.slice a n c] 50)).alloc (Obj.cells #[Value.int .i64 2, Value.int .i64 y1, Value.int .i64 y2, Value.slice a' n' c'] 50)).cell? ⟨w.heap.size, 2, none⟩ = some (.int .i64 x2) := by simp [go_sem]
  have k3 : ((w.alloc (Obj.cells #[Value.int .i64 3, Value.int .i64 x1, Value.int .i64 x2, Value.slice a n c] 50)).alloc (Obj.cells #[Value.int .i64 2, Value.int .i64 y1, Value.int .i64 y2, Value.slice a' n' c'] 50)).cell? ⟨w.heap.size, 3, none⟩ = some (.slice a n c) := by simp [go_sem]
  have j0 : ((w.alloc (Obj.cells #[Value.int .i64 3, Value.int .i64 x1, Value.int .i64 x2, Value.slice a n c] 50)).alloc (Obj.cells #[Value.int .i64 2, Value.int .i64 y1, Value.int .i64 y2, Value.slice a' n' c'] 50)).cell? ⟨w.heap.size + 1, 0, none⟩ = some (.int .i64 2) := by simp [go_sem]
  have j1 : ((w.alloc (Obj.cells #[Value.int .i64 3, Value.int .i64 x1, Value.int .i64 x2, Value.slice a n c] 50)).alloc (Obj.cells #[Value.int .i64 2, Value.int .i64 y1, Value.int .i64 y2, Value.slice a' n' c'] 50)).cell? ⟨w.heap.size + 1, 1, none⟩ = some (.int .i64 y1) := by simp [go_sem]
  have j2 : ((w.alloc (Obj.cells #[Value.int .i64 3, Value.int .i64 x1, Value.int .i64 x2, Value.slice a n c] 50)).alloc (Obj.cells #[Value.int .i64 2, Value.int .i64 y1, Value.int .i64 y2, Value.slice a' n' c'] 50)).cell? ⟨w.heap.size + 1, 2, none⟩ = some (.int .i64 y2) := by simp [go_sem]
  have j3 : ((w.alloc (Obj.cells #[Value.int .i64 3, Value.int .i64 x1, Value.int .i64 x2, Value.slice a n c] 50)).alloc (Obj.cells #[Value.int .i64 2, Value.int .i64 y1, Value.int .i64 y2, Value.slice a' n' c'] 50)).cell? ⟨w.heap.size + 1, 3, none⟩ = some ((.slice a' n' c')) := by simp [go_sem]
  have hmi := meth3
  have hmj := meth2
  go_enter Tryz.func61, Tryz.ntmps61
  go_wp2_with fail
  refine wp_region_wk (fun w' => Mk0 ((w.alloc (Obj.cells #[Value.int .i64 3, Value.int .i64 x1, Value.int .i64 x2, Value.slice a n c] 50)).alloc (Obj.cells #[Value.int .i64 2, Value.int .i64 y1, Value.int .i64 y2, Value.slice a' n' c'] 50)) w' ∧ w'.cell? ⟨w.heap.size, 0, none⟩ = some (.int .i64 3) ∧ w'.cell? ⟨w.heap.size, 1, none⟩ = some (.int .i64 x1) ∧ w'.cell? ⟨w.heap.size, 2, none⟩ = some (.int .i64 x2) ∧ w'.cell? ⟨w.heap.size, 3, none⟩ = some (.slice a n c) ∧ w'.cell? ⟨w.heap.size + 1, 0, none⟩ = some (.int .i64 2) ∧ w'.cell? ⟨w.heap.size + 1, 1, none⟩ = some (.int .i64 y1) ∧ w'.cell? ⟨w.heap.size + 1, 2, none⟩ = some (.int .i64 y2) ∧ w'.cell? ⟨w.heap.size + 1, 3, none⟩ = some ((.slice a' n' c'))) (by kernel_rfl) (by kernel_rfl) (⟨Mk.drew1 _, k0, k1, k2, k3, j0, j1, j2, j3⟩) ?_
  change Wk _ _ _ _ 17 0 _
  first | (refine Wk.skip (m := 16) (k := 0) rfl (by rfl) ?_) | (refine Wk.step (m := 16) (k := 0) (v := _) rfl (by rfl) (fun wv hS => by obtain ⟨s0, s1, s2, s3, s4, s5, s6, s7, s8⟩ := hS; go_simp; try with_reducible rfl) ?_)
  try simp only [Act.put, List.getElem_toArray, List.getElem_cons_zero, List.setIfInBounds_toArray, List.set_cons_zero, List.set_cons_succ]
  first | (refine Wk.skip (m := 15) (k := 1) rfl (by rfl) ?_) | (refine Wk.step (m := 15) (k := 1) (v := _) rfl (by rfl) (fun wv hS => by obtain ⟨s0, s1, s2, s3, s4, s5, s6, s7, s8⟩ := hS; go_simp; try with_reducible rfl) ?_)
  try simp only [Act.put, List.getElem_toArray, List.getElem_cons_succ, List.getElem_cons_zero, List.setIfInBounds_toArray, List.set_cons_zero, List.set_cons_succ]
  refine Wk.call (m := 14) (k := 2) (v := .iface 135 (.agg #[])) _ _ rfl (by rfl) (fun wv hS => by obtain ⟨s0, s1, s2, s3, s4, s5, s6, s7, s8⟩ := hS; go_simp; first | done | exact ⟨rfl, rfl⟩ | with_reducible rfl) (fun wv hS => ?_) ?_; · obtain ⟨s0, s1, s2, s3, s4, s5, s6, s7, s8⟩ := hS; refine (kindIs3 wv).mono ?_; rintro e w' ⟨he, mm⟩; exact ⟨he, ⟨s0.trans mm, mm.cellAt s1, mm.cellAt s2, mm.cellAt s3, mm.cellAt s4, mm.cellAt s5, mm.cellAt s6, mm.cellAt s7, mm.cellAt s8⟩⟩
  try simp only [Act.put, List.getElem_toArray, List.getElem_cons_succ, List.getElem_cons_zero, List.setIfInBounds_toArray, List.set_cons_zero, List.set_cons_succ]
  refine Wk.call (m := 13) (k := 3) (v := .int .i64 1) _ _ rfl (by rfl) (fun wv hS => by obtain ⟨s0, s1, s2, s3, s4, s5, s6, s7, s8⟩ := hS; go_simp; first | done | exact ⟨rfl, rfl⟩ | with_reducible rfl) (fun wv hS => ?_) ?_; · obtain ⟨s0, s1, s2, s3, s4, s5, s6, s7, s8⟩ := hS; refine (place3 wv).mono ?_; rintro e w' ⟨he, mm⟩; exact ⟨he, ⟨s0.trans mm, mm.cellAt s1, mm.cellAt s2, mm.cellAt s3, mm.cellAt s4, mm.cellAt s5, mm.cellAt s6, mm.cellAt s7, mm.cellAt s8⟩⟩
  try simp only [Act.put, List.getElem_toArray, List.getElem_cons_succ, List.getElem_cons_zero, List.setIfInBounds_toArray, List.set_cons_zero, List.set_cons_succ]
  first | (refine Wk.skip (m := 12) (k := 4) rfl (by rfl) ?_) | (refine Wk.step (m := 12) (k := 4) (v := _) rfl (by rfl) (fun wv hS => by obtain ⟨s0, s1, s2, s3, s4, s5, s6, s7, s8⟩ := hS; go_simp; try with_reducible rfl) ?_)
  try simp only [Act.put, List.getElem_toArray, List.getElem_cons_succ, List.getElem_cons_zero, List.setIfInBounds_toArray, List.set_cons_zero, List.set_cons_succ]
  first | (refine Wk.skip (m := 11) (k := 5) rfl (by rfl) ?_) | (refine Wk.step (m := 11) (k := 5) (v := _) rfl (by rfl) (fun wv hS => by obtain ⟨s0, s1, s2, s3, s4, s5, s6, s7, s8⟩ := hS; go_simp; try with_reducible rfl) ?_)
  try simp only [Act.put, List.getElem_toArray, List.getElem_cons_succ, List.getElem_cons_zero, List.setIfInBounds_toArray, List.set_cons_zero, List.set_cons_succ]
  refine Wk.call (m := 10) (k := 6) (v := .iface 134 (.agg #[])) _ _ rfl (by rfl) (fun wv hS => by obtain ⟨s0, s1, s2, s3, s4, s5, s6, s7, s8⟩ := hS; go_simp; first | done | exact ⟨rfl, rfl⟩ | with_reducible rfl) (fun wv hS => ?_) ?_; · obtain ⟨s0, s1, s2, s3, s4, s5, s6, s7, s8⟩ := hS; refine (kindIs2 wv).mono ?_; rintro e w' ⟨he, mm⟩; exact ⟨he, ⟨s0.trans mm, mm.cellAt s1, mm.cellAt s2, mm.cellAt s3, mm.cellAt s4, mm.cellAt s5, mm.cellAt s6, mm.cellAt s7, mm.cellAt s8⟩⟩
  try simp only [Act.put, List.getElem_toArray, List.getElem_cons_succ, List.getElem_cons_zero, List.setIfInBounds_toArray, List.set_cons_zero, List.set_cons_succ]
  refine Wk.call (m := 9) (k := 7) (v := .int .i64 1) _ _ rfl (by rfl) (fun wv hS => by obtain ⟨s0, s1, s2, s3, s4, s5, s6, s7, s8⟩ := hS; go_simp; first | done | exact ⟨rfl, rfl⟩ | with_reducible rfl) (fun wv hS => ?_) ?_; · obtain ⟨s0, s1, s2, s3, s4, s5, s6, s7, s8⟩ := hS; refine (place2 wv).mono ?_; rintro e w' ⟨he, mm⟩; exact ⟨he, ⟨s0.trans mm, mm.cellAt s1, mm.cellAt s2, mm.cellAt s3, mm.cellAt s4, mm.cellAt s5, mm.cellAt s6, mm.cellAt s7, mm.cellAt s8⟩⟩
  try simp only [Act.put, List.getElem_toArray, List.getElem_cons_succ, List.getElem_cons_zero, List.setIfInBounds_toArray, List.set_cons_zero, List.set_cons_succ]
  first | (refine Wk.skip (m := 8) (k := 8) rfl (by rfl) ?_) | (refine Wk.step (m := 8) (k := 8) (v := _) rfl (by rfl) (fun wv hS => by obtain ⟨s0, s1, s2, s3, s4, s5, s6, s7, s8⟩ := hS; go_simp; try with_reducible rfl) ?_)
  try simp only [Act.put, List.getElem_toArray, List.getElem_cons_succ, List.getElem_cons_zero, List.setIfInBounds_toArray, List.set_cons_zero, List.set_cons_succ]
  first | (refine Wk.skip (m := 7) (k := 9) rfl (by rfl) ?_) | (refine Wk.step (m := 7) (k := 9) (v := _) rfl (by rfl) (fun wv hS => by obtain ⟨s0, s1, s2, s3, s4, s5, s6, s7, s8⟩ := hS; go_simp; try with_reducible rfl) ?_)
  try simp only [Act.put, List.getElem_toArray, List.getElem_cons_succ, List.getElem_cons_zero, List.setIfInBounds_toArray, List.set_cons_zero, List.set_cons_succ]
  first | (refine Wk.skip (m := 6) (k := 10) rfl (by rfl) ?_) | (refine Wk.step (m := 6) (k := 10) (v := _) rfl (by rfl) (fun wv hS => by obtain ⟨s0, s1, s2, s3, s4, s5, s6, s7, s8⟩ := hS; go_simp; try with_reducible rfl) ?_)
  try simp only [Act.put, List.getElem_toArray, List.getElem_cons_succ, List.getElem_cons_zero, List.setIfInBounds_toArray, List.set_cons_zero, List.set_cons_succ]
  refine Wk.skip (m := 5) (k := 11) rfl (by rfl) ?_
  try simp only [Act.put, List.getElem_toArray, List.getElem_cons_succ, List.getElem_cons_zero, List.setIfInBounds_toArray, List.set_cons_zero, List.set_cons_succ]
  first | (refine Wk.skip (m := 4) (k := 12) rfl (by rfl) ?_) | (refine Wk.step (m := 4) (k := 12) (v := _) rfl (by rfl) (fun wv hS => by obtain ⟨s0, s1, s2, s3, s4, s5, s6, s7, s8⟩ := hS; go_simp; try with_reducible rfl) ?_)
  try simp only [Act.put, List.getElem_toArray, List.getElem_cons_succ, List.getElem_cons_zero, List.setIfInBounds_toArray, List.set_cons_zero, List.set_cons_succ]
  refine Wk.skip (m := 3) (k := 13) rfl (by rfl) ?_
  try simp only [Act.put, List.getElem_toArray, List.getElem_cons_succ, List.getElem_cons_zero, List.setIfInBounds_toArray, List.set_cons_zero, List.set_cons_succ]
  refine Wk.skip (m := 2) (k := 14) rfl (by rfl) ?_
  try simp only [Act.put, List.getElem_toArray, List.getElem_cons_succ, List.getElem_cons_zero, List.setIfInBounds_toArray, List.set_cons_zero, List.set_cons_succ]
  first | (refine Wk.skip (m := 1) (k := 15) rfl (by rfl) ?_) | (refine Wk.step (m := 1) (k := 15) (v := _) rfl (by rfl) (fun wv hS => by obtain ⟨s0, s1, s2, s3, s4, s5, s6, s7, s8⟩ := hS; go_simp; try with_reducible rfl) ?_)
  try simp only [Act.put, List.getElem_toArray, List.getElem_cons_succ, List.getElem_cons_zero, List.setIfInBounds_toArray, List.set_cons_zero, List.set_cons_succ]
  first | (refine Wk.skip (m := 0) (k := 16) rfl (by rfl) ?_) | (refine Wk.step (m := 0) (k := 16) (v := _) rfl (by rfl) (fun wv hS => by obtain ⟨s0, s1, s2, s3, s4, s5, s6, s7, s8⟩ := hS; go_simp; try with_reducible rfl) ?_)
  try simp only [Act.put, List.getElem_toArray, List.getElem_cons_succ, List.getElem_cons_zero, List.setIfInBounds_toArray, List.set_cons_zero, List.set_cons_succ]
  refine Wk.done fun wE hE => ?_
  clear k0 k1 k2 k3 j0 j1 j2 j3
  obtain ⟨mE, k0, k1, k2, k3, j0, j1, j2, j3⟩ := hE
  go_wp2_with fail
  go_ret
  exact ⟨rfl, M0.trans mE⟩

set_option maxRecDepth 100000 in
set_option maxHeartbeats 4000000 in
theorem implMay33 (x1 x2 : Int) (a : Option Addr) (n c B : Nat) (zs : List THop) (y1 y2 : Int) (a' : Option Addr) (n' c' B' : Nat) (zs' : List THop) (w : World) (h : HasHop w B a n zs) (hB : B ≤ w.heap.size) (hn : n ≤ 1048576) (h' : HasHop w B' a' n' zs') (hB' : B' ≤ w.heap.size) (hn' : n' ≤ 1048576) :
    Calls Tryz.prog 61 #[.agg #[.int .i64 3, .int .i64 x1, .int .i64 x2, .slice a n c], .agg #[.int .i64 3, .int .i64 y1, .int .i64 y2, .slice a' n' c']] w fun e w' => e = .returned (.bool (false)) ∧ Mk0 w w' := by
  have M0 := (Mk.alloc w (Obj.cells #[Value.int .i64 3, Value.int .i64 x1, Value.int .i64 x2, Value.slice a n c] 50)).new (Obj.cells #[Value.int .i64 3, Value.int .i64 y1, Value.int .i64 y2, Value.slice a' n' c'] 50)
  have k0 : ((w.alloc (Obj.cells #[Value.int .i64 3, Value.int .i64 x1, Value.int .i64 x2, Value.slice a n c] 50)).alloc (Obj.cells #[Value.int .i64 3, Value.int .i64 y1, Value.int .i64 y2, Value.slice a' n' c'] 50)).cell? ⟨w.heap.size, 0, none⟩ = some (.int .i64 3) := by simp [go_sem]
  have k1 : ((w.alloc (Obj.cells #[Value.int .i64 3, Value.int .i64 x1, Value.int .i64 x2, Value.slice a n c] 50)).alloc (Obj.cells #[Value.int .i64 3, Value.int .i64 y1, Value.int .i64 y2, Value.slice a' n' c'] 50)).cell? ⟨w.heap.size, 1, none⟩ = some (.int .i64 x1) := by simp [go_sem]
  have k2 : ((w.alloc (Obj.cells #[Value.int .i64 3, Value.int .i64 x1, Value.int .i64 x2, Value.slice a n c] 50)).alloc (Obj.cells #[Value.int .i64 3, Value.int .i64 y1, Value.int .i64 y2, Value.slice a' n' c'] 50)).cell? ⟨w.heap.size, 2, none⟩ = some (.int .i64 x2) := by simp [go_sem]
  have k3 : ((w.alloc (Obj.cells #[Value.int .i64 3, Value.int .i64 x1, Value.int .i64 x2, Value.slice a n c] 50)).alloc (Obj.cells #[Value.int .i64 3, Value.int .i64 y1, Value.int .i64 y2, Value.slice a' n' c'] 50)).cell? ⟨w.heap.size, 3, none⟩ = some (.slice a n c) := by simp [go_sem]
  have j0 : ((w.alloc (Obj.cells #[Value.int .i64 3, Value.int .i64 x1, Value.int .i64 x2, Value.slice a n c] 50)).alloc (Obj.cells #[Value.int .i64 3, Value.int .i64 y1, Value.int .i64 y2, Value.slice a' n' c'] 50)).cell? ⟨w.heap.size + 1, 0, none⟩ = some (.int .i64 3) := by simp [go_sem]
  have j1 : ((w.alloc (Obj.cells #[Value.int .i64 3, Value.int .i64 x1, Value.int .i64 x2, Value.slice a n c] 50)).alloc (Obj.cells #[Value.int .i64 3, Value.int .i64 y1, Value.int .i64 y2, Value.slice a' n' c'] 50)).cell? ⟨w.heap.size + 1, 1, none⟩ = some (.int .i64 y1) := by simp [go_sem]
  have j2 : ((w.alloc (Obj.cells #[Value.int .i64 3, Value.int .i64 x1, Value.int .i64 x2, Value.slice a n c] 50)).alloc (Obj.cells #[Value.int .i64 3, Value.int .i64 y1, Value.int .i64 y2, Value.slice a' n' c'] 50)).cell? ⟨w.heap.size + 1, 2, none⟩ = some (.int .i64 y2) := by simp [go_sem]
  have j3 : ((w.alloc (Obj.cells #[Value.int .i64 3, Value.int .i64 x1, Value.int .i64 x2, Value.slice a n c] 50)).alloc (Obj.cells #[Value.int .i64 3, Value.int .i64 y1, Value.int .i64 y2, Value.slice a' n' c'] 50)).cell? ⟨w.heap.size + 1, 3, none⟩ = some ((.slice a' n' c')) := by simp [go_sem]
  have hmi := meth3
  go_enter Tryz.func61, Tryz.ntmps61
  go_wp2_with fail
  refine wp_region_wk (fun w' => Mk0 ((w.alloc (Obj.cells #[Value.int .i64 3, Value.int .i64 x1, Value.int .i64 x2, Value.slice a n c] 50)).alloc (Obj.cells #[Value.int .i64 3, Value.int .i64 y1, Value.int .i64 y2, Value.slice a' n' c'] 50)) w' ∧ w'.cell? ⟨w.heap.size, 0, none⟩ = some (.int .i64 3) ∧ w'.cell? ⟨w.heap.size, 1, none⟩ = some (.int .i64 x1) ∧ w'.cell? ⟨w.heap.size, 2, none⟩ = some (.int .i64 x2) ∧ w'.cell? ⟨w.heap.size, 3, none⟩ = some (.slice a n c) ∧ w'.cell? ⟨w.heap.size + 1, 0, none⟩ = some (.int .i64 3) ∧ w'.cell? ⟨w.heap.size + 1, 1, none⟩ = some (.int .i64 y1) ∧ w'.cell? ⟨w.heap.size + 1, 2, none⟩ = some (.int .i64 y2) ∧ w'.cell? ⟨w.heap.size + 1, 3, none⟩ = some ((.slice a' n' c'))) (by kernel_rfl) (by kernel_rfl) (⟨Mk.drew1 _, k0, k1, k2, k3, j0, j1, j2, j3⟩) ?_
  change Wk _ _ _ _ 17 0 _
  first | (refine Wk.skip (m := 16) (k := 0) rfl (by rfl) ?_) | (refine Wk.step (m := 16) (k := 0) (v := _) rfl (by rfl) (fun wv hS => by obtain ⟨s0, s1, s2, s3, s4, s5, s6, s7, s8⟩ := hS; go_simp; try with_reducible rfl) ?_)
  try simp only [Act.put, List.getElem_toArray, List.getElem_cons_zero, List.setIfInBounds_toArray, List.set_cons_zero, List.set_cons_succ]
  first | (refine Wk.skip (m := 15) (k := 1) rfl (by rfl) ?_) | (refine Wk.step (m := 15) (k := 1) (v := _) rfl (by rfl) (fun wv hS => by obtain ⟨s0, s1, s2, s3, s4, s5, s6, s7, s8⟩ := hS; go_simp; try with_reducible rfl) ?_)
  try simp only [Act.put, List.getElem_toArray, List.getElem_cons_succ, List.getElem_cons_zero, List.setIfInBounds_toArray, List.set_cons_zero, List.set_cons_succ]
  refine Wk.call (m := 14) (k := 2) (v := .iface 135 (.agg #[])) _ _ rfl (by rfl) (fun wv hS => by obtain ⟨s0, s1, s2, s3, s4, s5, s6, s7, s8⟩ := hS; go_simp; first | done | exact ⟨rfl, rfl⟩ | with_reducible rfl) (fun wv hS => ?_) ?_; · obtain ⟨s0, s1, s2, s3, s4, s5, s6, s7, s8⟩ := hS; refine (kindIs3 wv).mono ?_; rintro e w' ⟨he, mm⟩; exact ⟨he, ⟨s0.trans mm, mm.cellAt s1, mm.cellAt s2, mm.cellAt s3, mm.cellAt s4, mm.cellAt s5, mm.cellAt s6, mm.cellAt s7, mm.cellAt s8⟩⟩
  try simp only [Act.put, List.getElem_toArray, List.getElem_cons_succ, List.getElem_cons_zero, List.setIfInBounds_toArray, List.set_cons_zero, List.set_cons_succ]
  refine Wk.call (m := 13) (k := 3) (v := .int .i64 1) _ _ rfl (by rfl) (fun wv hS => by obtain ⟨s0, s1, s2, s3, s4, s5, s6, s7, s8⟩ := hS; go_simp; first | done | exact ⟨rfl, rfl⟩ | with_reducible rfl) (fun wv hS => ?_) ?_; · obtain ⟨s0, s1, s2, s3, s4, s5, s6, s7, s8⟩ := hS; refine (place3 wv).mono ?_; rintro e w' ⟨he, mm⟩; exact ⟨he, ⟨s0.trans mm, mm.cellAt s1, mm.cellAt s2, mm.cellAt s3, mm.cellAt s4, mm.cellAt s5, mm.cellAt s6, mm.cellAt s7, mm.cellAt s8⟩⟩
  try simp only [Act.put, List.getElem_toArray, List.getElem_cons_succ, List.getElem_cons_zero, List.setIfInBounds_toArray, List.set_cons_zero, List.set_cons_succ]
  first | (refine Wk.skip (m := 12) (k := 4) rfl (by rfl) ?_) | (refine Wk.step (m := 12) (k := 4) (v := _) rfl (by rfl) (fun wv hS => by obtain ⟨s0, s1, s2, s3, s4, s5, s6, s7, s8⟩ := hS; go_simp; try with_reducible rfl) ?_)
  try simp only [Act.put, List.getElem_toArray, List.getElem_cons_succ, List.getElem_cons_zero, List.setIfInBounds_toArray, List.set_cons_zero, List.set_cons_succ]
  first | (refine Wk.skip (m := 11) (k := 5) rfl (by rfl) ?_) | (refine Wk.step (m := 11) (k := 5) (v := _) rfl (by rfl) (fun wv hS => by obtain ⟨s0, s1, s2, s3, s4, s5, s6, s7, s8⟩ := hS; go_simp; try with_reducible rfl) ?_)
  try simp only [Act.put, List.getElem_toArray, List.getElem_cons_succ, List.getElem_cons_zero, List.setIfInBounds_toArray, List.set_cons_zero, List.set_cons_succ]
  refine Wk.call (m := 10) (k := 6) (v := .iface 135 (.agg #[])) _ _ rfl (by rfl) (fun wv hS => by obtain ⟨s0, s1, s2, s3, s4, s5, s6, s7, s8⟩ := hS; go_simp; first | done | exact ⟨rfl, rfl⟩ | with_reducible rfl) (fun wv hS => ?_) ?_; · obtain ⟨s0, s1, s2, s3, s4, s5, s6, s7, s8⟩ := hS; refine (kindIs3 wv).mono ?_; rintro e w' ⟨he, mm⟩; exact ⟨he, ⟨s0.trans mm, mm.cellAt s1, mm.cellAt s2, mm.cellAt s3, mm.cellAt s4, mm.cellAt s5, mm.cellAt s6, mm.cellAt s7, mm.cellAt s8⟩⟩
  try simp only [Act.put, List.getElem_toArray, List.getElem_cons_succ, List.getElem_cons_zero, List.setIfInBounds_toArray, List.set_cons_zero, List.set_cons_succ]
  refine Wk.call (m := 9) (k := 7) (v := .int .i64 1) _ _ rfl (by rfl) (fun wv hS => by obtain ⟨s0, s1, s2, s3, s4, s5, s6, s7, s8⟩ := hS; go_simp; first | done | exact ⟨rfl, rfl⟩ | with_reducible rfl) (fun wv hS => ?_) ?_; · obtain ⟨s0, s1, s2, s3, s4, s5, s6, s7, s8⟩ := hS; refine (place3 wv).mono ?_; rintro e w' ⟨he, mm⟩; exact ⟨he, ⟨s0.trans mm, mm.cellAt s1, mm.cellAt s2, mm.cellAt s3, mm.cellAt s4, mm.cellAt s5, mm.cellAt s6, mm.cellAt s7, mm.cellAt s8⟩⟩
  try simp only [Act.put, List.getElem_toArray, List.getElem_cons_succ, List.getElem_cons_zero, List.setIfInBounds_toArray, List.set_cons_zero, List.set_cons_succ]
  first | (refine Wk.skip (m := 8) (k := 8) rfl (by rfl) ?_) | (refine Wk.step (m := 8) (k := 8) (v := _) rfl (by rfl) (fun wv hS => by obtain ⟨s0, s1, s2, s3, s4, s5, s6, s7, s8⟩ := hS; go_simp; try with_reducible rfl) ?_)
  try simp only [Act.put, List.getElem_toArray, List.getElem_cons_succ, List.getElem_cons_zero, List.setIfInBounds_toArray, List.set_cons_zero, List.set_cons_succ]
  first | (refine Wk.skip (m := 7) (k := 9) rfl (by rfl) ?_) | (refine Wk.step (m := 7) (k := 9) (v := _) rfl (by rfl) (fun wv hS => by obtain ⟨s0, s1, s2, s3, s4, s5, s6, s7, s8⟩ := hS; go_simp; try with_reducible rfl) ?_)
  try simp only [Act.put, List.getElem_toArray, List.getElem_cons_succ, List.getElem_cons_zero, List.setIfInBounds_toArray, List.set_cons_zero, List.set_cons_succ]
  first | (refine Wk.skip (m := 6) (k := 10) rfl (by rfl) ?_) | (refine Wk.step (m := 6) (k := 10) (v := _) rfl (by rfl) (fun wv hS => by obtain ⟨s0, s1, s2, s3, s4, s5, s6, s7, s8⟩ := hS; go_simp; try with_reducible rfl) ?_)
  try simp only [Act.put, List.getElem_toArray, List.getElem_cons_succ, List.getElem_cons_zero, List.setIfInBounds_toArray, List.set_cons_zero, List.set_cons_succ]
  refine Wk.skip (m := 5) (k := 11) rfl (by rfl) ?_
  try simp only [Act.put, List.getElem_toArray, List.getElem_cons_succ, List.getElem_cons_zero, List.setIfInBounds_toArray, List.set_cons_zero, List.set_cons_succ]
  first | (refine Wk.skip (m := 4) (k := 12) rfl (by rfl) ?_) | (refine Wk.step (m := 4) (k := 12) (v := _) rfl (by rfl) (fun wv hS => by obtain ⟨s0, s1, s2, s3, s4, s5, s6, s7, s8⟩ := hS; go_simp; try with_reducible rfl) ?_)
  try simp only [Act.put, List.getElem_toArray, List.getElem_cons_succ, List.getElem_cons_zero, List.setIfInBounds_toArray, List.set_cons_zero, List.set_cons_succ]
  refine Wk.skip (m := 3) (k := 13) rfl (by rfl) ?_
  try simp only [Act.put, List.getElem_toArray, List.getElem_cons_succ, List.getElem_cons_zero, List.setIfInBounds_toArray, List.set_cons_zero, List.set_cons_succ]
  refine Wk.skip (m := 2) (k := 14) rfl (by rfl) ?_
  try simp only [Act.put, List.getElem_toArray, List.getElem_cons_succ, List.getElem_cons_zero, List.setIfInBounds_toArray, List.set_cons_zero, List.set_cons_succ]
  first | (refine Wk.skip (m := 1) (k := 15) rfl (by rfl) ?_) | (refine Wk.step (m := 1) (k := 15) (v := _) rfl (by rfl) (fun wv hS => by obtain ⟨s0, s1, s2, s3, s4, s5, s6, s7, s8⟩ := hS; go_simp; try with_reducible rfl) ?_)
  try simp only [Act.put, List.getElem_toArray, List.getElem_cons_succ, List.getElem_cons_zero, List.setIfInBounds_toArray, List.set_cons_zero, List.set_cons_succ]
  first | (refine Wk.skip (m := 0) (k := 16) rfl (by rfl) ?_) | (refine Wk.step (m := 0) (k := 16) (v := _) rfl (by rfl) (fun wv hS => by obtain ⟨s0, s1, s2, s3, s4, s5, s6, s7, s8⟩ := hS; go_simp; try with_reducible rfl) ?_)
  try simp only [Act.put, List.getElem_toArray, List.getElem_cons_succ, List.getElem_cons_zero, List.setIfInBounds_toArray, List.set_cons_zero, List.set_cons_succ]
  refine Wk.done fun wE hE => ?_
  clear k0 k1 k2 k3 j0 j1 j2 j3
  obtain ⟨mE, k0, k1, k2, k3, j0, j1, j2, j3⟩ := hE
  go_wp2_with fail
  go_ret
  exact ⟨rfl, M0.trans mE⟩

set_option maxRecDepth 100000 in
set_option maxHeartbeats 4000000 in
theorem implMay34 (x1 x2 : Int) (a : Option Addr) (n c B : Nat) (zs : List THop) (y1 y2 : Int) (a' : Option Addr) (n' c' B' : Nat) (zs' : List THop) (w : World) (h : HasHop w B a n zs) (hB : B ≤ w.heap.size) (hn : n ≤ 1048576) (h' : HasHop w B' a' n' zs') (hB' : B' ≤ w.heap.size) (hn' : n' ≤ 1048576) :
    Calls Tryz.prog 61 #[.agg #[.int .i64 3, .int .i64 x1, .int .i64 x2, .slice a n c], .agg #[.int .i64 4, .int .i64 y1, .int .i64 y2, .slice a' n' c']] w fun e w' => e = .returned (.bool (meetB (stL (⟨3, x1, x2, zs⟩ : TPathPart) n) (stL (⟨4, y1, y2, zs'⟩ : TPathPart) n'))) ∧ Mk0 w w' := by
  have M0 := (Mk.alloc w (Obj.cells #[Value.int .i64 3, Value.int .i64 x1, Value.int .i64 x2, Value.slice a n c] 50)).new (Obj.cells #[Value.int .i64 4, Value.int .i64 y1, Value.int .i64 y2, Value.slice a' n' c'] 50)
  have k0 : ((w.alloc (Obj.cells #[Value.int .i64 3, Value.int .i64 x1, Value.int .i64 x2, Value.slice a n c] 50)).alloc (Obj.cells #[Value.int .i64 4, Value.int .i64 y1, Value.int .i64 y2, Value.slice a' n' c'] 50)).cell? ⟨w.heap.size, 0, none⟩ = some (.int .i64 3) := by simp [go_sem]
  have k1 : ((w.alloc (Obj.cells #[Value.int .i64 3, Value.int .i64 x1, Value.int .i64 x2, Value.slice a n c] 50)).alloc (Obj.cells #[Value.int .i64 4, Value.int .i64 y1, Value.int .i64 y2, Value.slice a' n' c'] 50)).cell? ⟨w.heap.size, 1, none⟩ = some (.int .i64 x1) := by simp [go_sem]
  have k2 : ((w.alloc (Obj.cells #[Value.int .i64 3, Value.int .i64 x1, Value.int .i64 x2, Value.slice a n c] 50)).alloc (Obj.cells #[Value.int .i64 4, Value.int .i64 y1, Value.int .i64 y2, Value.slice a' n' c'] 50)).cell? ⟨w.heap.size, 2, none⟩ = some (.int .i64 x2) := by simp [go_sem]
  have k3 : ((w.alloc (Obj.cells #[Value.int .i64 3, Value.int .i64 x1, Value.int .i64 x2, Value.slice a n c] 50)).alloc (Obj.cells #[Value.int .i64 4, Value.int .i64 y1, Value.int .i64 y2, Value.slice a' n' c'] 50)).cell? ⟨w.heap.size, 3, none⟩ = some (.slice a n c) := by simp [go_sem]
  have j0 : ((w.alloc (Obj.cells #[Value.int .i64 3, Value.int .i64 x1, Value.int .i64 x2, Value.slice a n c] 50)).alloc (Obj.cells #[Value.int .i64 4, Value.int .i64 y1, Value.int .i64 y2, Value.slice a' n' c'] 50)).cell? ⟨w.heap.size + 1, 0, none⟩ = some (.int .i64 4) := by simp [go_sem]
  have j1 : ((w.alloc (Obj.cells #[Value.int .i64 3, Value.int .i64 x1, Value.int .i64 x2, Value.slice a n c] 50)).alloc (Obj.cells #[Value.int .i64 4, Value.int .i64 y1, Value.int .i64 y2, Value.slice a' n' c'] 50)).cell? ⟨w.heap.size + 1, 1, none⟩ = some (.int .i64 y1) := by simp [go_sem]
  have j2 : ((w.alloc (Obj.cells #[Value.int .i64 3, Value.int .i64 x1, Value.int .i64 x2, Value.slice a n c] 50)).alloc (Obj.cells #[Value.int .i64 4, Value.int .i64 y1, Value.int .i64 y2, Value.slice a' n' c'] 50)).cell? ⟨w.heap.size + 1, 2, none⟩ = some (.int .i64 y2) := by simp [go_sem]
  have j3 : ((w.alloc (Obj.cells #[Value.int .i64 3, Value.int .i64 x1, Value.int .i64 x2, Value.slice a n c] 50)).alloc (Obj.cells #[Value.int .i64 4, Value.int .i64 y1, Value.int .i64 y2, Value.slice a' n' c'] 50)).cell? ⟨w.heap.size + 1, 3, none⟩ = some ((.slice a' n' c')) := by simp [go_sem]
  have hmi := meth3
  have hmj := meth4
  have e1 : ∀ w', Mk0 ((w.alloc (Obj.cells #[Value.int .i64 3, Value.int .i64 x1, Value.int .i64 x2, Value.slice a n c] 50)).alloc (Obj.cells #[Value.int .i64 4, Value.int .i64 y1, Value.int .i64 y2, Value.slice a' n' c'] 50)) w' → HasHop w' B a n zs := fun w' m => h.mk (M0.trans m) hB (.inr (Nat.le_refl _))
  have e2 : ∀ w', Mk0 ((w.alloc (Obj.cells #[Value.int .i64 3, Value.int .i64 x1, Value.int .i64 x2, Value.slice a n c] 50)).alloc (Obj.cells #[Value.int .i64 4, Value.int .i64 y1, Value.int .i64 y2, Value.slice a' n' c'] 50)) w' → HasHop w' B' a' n' zs' := fun w' m => h'.mk (M0.trans m) hB' (.inr (Nat.le_refl _))
  have e3 : ∀ w', Mk0 ((w.alloc (Obj.cells #[Value.int .i64 3, Value.int .i64 x1, Value.int .i64 x2, Value.slice a n c] 50)).alloc (Obj.cells #[Value.int .i64 4, Value.int .i64 y1, Value.int .i64 y2, Value.slice a' n' c'] 50)) w' → B ≤ w'.heap.size := fun w' m => Nat.le_trans hB (M0.trans m).size
  have e4 : ∀ w', Mk0 ((w.alloc (Obj.cells #[Value.int .i64 3, Value.int .i64 x1, Value.int .i64 x2, Value.slice a n c] 50)).alloc (Obj.cells #[Value.int .i64 4, Value.int .i64 y1, Value.int .i64 y2, Value.slice a' n' c'] 50)) w' → B' ≤ w'.heap.size := fun w' m => Nat.le_trans hB' (M0.trans m).size
  go_enter Tryz.func61, Tryz.ntmps61
  go_wp2_with fail
  go_region_held3 (fun w' => Mk0 ((w.alloc (Obj.cells #[Value.int .i64 3, Value.int .i64 x1, Value.int .i64 x2, Value.slice a n c] 50)).alloc (Obj.cells #[Value.int .i64 4, Value.int .i64 y1, Value.int .i64 y2, Value.slice a' n' c'] 50)) w' ∧ w'.cell? ⟨w.heap.size, 0, none⟩ = some (.int .i64 3) ∧ w'.cell? ⟨w.heap.size, 1, none⟩ = some (.int .i64 x1) ∧ w'.cell? ⟨w.heap.size, 2, none⟩ = some (.int .i64 x2) ∧ w'.cell? ⟨w.heap.size, 3, none⟩ = some (.slice a n c) ∧ w'.cell? ⟨w.heap.size + 1, 0, none⟩ = some (.int .i64 4) ∧ w'.cell? ⟨w.heap.size + 1, 1, none⟩ = some (.int .i64 y1) ∧ w'.cell? ⟨w.heap.size + 1, 2, none⟩ = some (.int .i64 y2) ∧ w'.cell? ⟨w.heap.size + 1, 3, none⟩ = some ((.slice a' n' c'))) (first | exact ⟨Mk.drew1 _, k0, k1, k2, k3, j0, j1, j2, j3⟩ | (obtain ⟨s0, s1, s2, s3, s4, s5, s6, s7, s8⟩ := ‹Mk0 ((w.alloc (Obj.cells #[Value.int .i64 3, Value.int .i64 x1, Value.int .i64 x2, Value.slice a n c] 50)).alloc (Obj.cells #[Value.int .i64 4, Value.int .i64 y1, Value.int .i64 y2, Value.slice a' n' c'] 50)) _ ∧ _›; exact ⟨s0.trans mm, mm.cellAt s1, mm.cellAt s2, mm.cellAt s3, mm.cellAt s4, mm.cellAt s5, mm.cellAt s6, mm.cellAt s7, mm.cellAt s8⟩)) (first | (go_at_call 92; with_reducible refine (kindIs3 _).mono ?_; rintro e wk3 ⟨rfl, mm⟩) | (go_at_call 92; with_reducible refine (kindIs4 _).mono ?_; rintro e wk4 ⟨rfl, mm⟩) | (go_at_call 165; with_reducible refine (place3 _).mono ?_; rintro e wp3 ⟨rfl, mm⟩) | (go_at_call 166; with_reducible refine (place4 _).mono ?_; rintro e wp4 ⟨rfl, mm⟩) | (go_at_call 94; (with_reducible refine (implSoP 3 x1 x2 a n c B zs _ (e1 _ (‹Mk0 ((w.alloc (Obj.cells #[Value.int .i64 3, Value.int .i64 x1, Value.int .i64 x2, Value.slice a n c] 50)).alloc (Obj.cells #[Value.int .i64 4, Value.int .i64 y1, Value.int .i64 y2, Value.slice a' n' c'] 50)) _ ∧ _›).1) (e3 _ (‹Mk0 ((w.alloc (Obj.cells #[Value.int .i64 3, Value.int .i64 x1, Value.int .i64 x2, Value.slice a n c] 50)).alloc (Obj.cells #[Value.int .i64 4, Value.int .i64 y1, Value.int .i64 y2, Value.slice a' n' c'] 50)) _ ∧ _›).1) hn).mono ?_); rintro e wsA ⟨AA, NA, CA, rfl, hcA, oA, mm⟩; have qA := oA.has; have msA := mm) | (go_at_call 94; (with_reducible refine (implSoP 4 y1 y2 a' n' c' B' zs' _ (e2 _ (‹Mk0 ((w.alloc (Obj.cells #[Value.int .i64 3, Value.int .i64 x1, Value.int .i64 x2, Value.slice a n c] 50)).alloc (Obj.cells #[Value.int .i64 4, Value.int .i64 y1, Value.int .i64 y2, Value.slice a' n' c'] 50)) _ ∧ _›).1) (e4 _ (‹Mk0 ((w.alloc (Obj.cells #[Value.int .i64 3, Value.int .i64 x1, Value.int .i64 x2, Value.slice a n c] 50)).alloc (Obj.cells #[Value.int .i64 4, Value.int .i64 y1, Value.int .i64 y2, Value.slice a' n' c'] 50)) _ ∧ _›).1) hn').mono ?_); rintro e wsB ⟨AB, NB, CB, rfl, hcB, oB, mm⟩; have qB := oB.has; have msB := mm) | (go_at_call 93; have hNA : NA ≤ 2097152 := (by have := qA.1; rw [stL_len] at this; omega); have hNB : NB ≤ 2097152 := (by have := qB.1; rw [stL_len] at this; omega); refine (implMeet AA AB NA NB CA CB wsA.heap.size wsB.heap.size _ _ _ (qA.mk msB (Nat.le_refl _) (.inr (Nat.le_refl _))) qB msB.size (Nat.le_refl _) hNA hNB).mono ?_; rintro e wm ⟨rfl, mm⟩))
  have m6 := (‹Mk0 ((w.alloc (Obj.cells #[Value.int .i64 3, Value.int .i64 x1, Value.int .i64 x2, Value.slice a n c] 50)).alloc (Obj.cells #[Value.int .i64 4, Value.int .i64 y1, Value.int .i64 y2, Value.slice a' n' c'] 50)) _ ∧ _›).1
  refine ‹∀ (a : Act) (w : World), _ → _› _ _ ?_
  go_wp2_with fail
  go_ret
  exact ⟨rfl, M0.trans m6⟩

end Go.Proofs.YtifhhfndoifbhaaGreat
namespace Go.Proofs.YtifhhfndoifbhaaGreat
open Go.ChangeShapes Go.WideShapes Go.ChangeAt Go.RowKit
set_option linter.unusedVariables false
set_option maxRecDepth 100000 in
set_option maxHeartbeats 4000000 in
theorem implMay41 (x1 x2 : Int) (a : Option Addr) (n c B : Nat) (zs : List THop) (y1 y2 : Int) (a' : Option Addr) (n' c' B' : Nat) (zs' : List THop) (w : World) (h : HasHop w B a n zs) (hB : B ≤ w.heap.size) (hn : n ≤ 1048576) (h' : HasHop w B' a' n' zs') (hB' : B' ≤ w.heap.size) (hn' : n' ≤ 1048576) :
    Calls Tryz.prog 61 #[.agg #[.int .i64 4, .int .i64 x1, .int .i64 x2, .slice a n c], .agg #[.int .i64 1, .int .i64 y1, .int .i64 y2, .slice a' n' c']] w fun e w' => e = .returned (.bool (false)) ∧ Mk0 w w' := by
  have M0 := (Mk.alloc w (Obj.cells #[Value.int .i64 4, Value.int .i64 x1, Value.int .i64 x2, Value.slice a n c] 50)).new (Obj.cells #[Value.int .i64 1, Value.int .i64 y1, Value.int .i64 y2, Value.slice a' n' c'] 50)
  have k0 : ((w.alloc (Obj.cells #[Value.int .i64 4, Value.int .i64 x1, Value.int .i64 x2, Value.slice a n c] 50)).alloc (Obj.cells #[Value.int .i64 1, Value.int .i64 y1, Value.int .i64 y2, Value.slice a' n' c'] 50)).cell? ⟨w.heap.size, 0, none⟩ = some (.int .i64 4) := by simp [go_sem]
  have k1 : ((w.alloc (Obj.cells #[Value.int .i64 4, Value.int .i64 x1, Value.int .i64 x2, Value.slice a n c] 50)).alloc (Obj.cells #[Value.int .i64 1, Value.int .i64 y1, Value.int .i64 y2, Value.slice a' n' c'] 50)).cell? ⟨w.heap.size, 1, none⟩ = some (.int .i64 x1) := by simp [go_sem]
  have k2 : ((w.alloc (Obj.cells #[Value.int .i64 4, Value.int .i64 x1, Value.int .i64 x2, Value.slice a n c] 50)).alloc (Obj.cells #[Value.int .i64 1, Value.int .i64 y1, Value.int .i64 y2, Value.slice a' n' c'] 50)).cell? ⟨w.heap.size, 2, none⟩ = some (.int .i64 x2) := by simp [go_sem]
  have k3 : ((w.alloc (Obj.cells #[Value.int .i64 4, Value.int .i64 x1, Value.int .i64 x2, Value.slice a n c] 50)).alloc (Obj.cells #[Value.int .i64 1, Value.int .i64 y1, Value.int .i64 y2, Value.slice a' n' c'] 50)).cell? ⟨w.heap.size, 3, none⟩ = some (.slice a n c) := by simp [go_sem]
  have j0 : ((w.alloc (Obj.cells #[Value.int .i64 4, Value.int .i64 x1, Value.int .i64 x2, Value.slice a n c] 50)).alloc (Obj.cells #[Value.int .i64 1, Value.int .i64 y1, Value.int .i64 y2, Value.slice a' n' c'] 50)).cell? ⟨w.heap.size + 1, 0, none⟩ = some (.int .i64 1) := by simp [go_sem]
  have j1 : ((w.alloc (Obj.cells #[Value.int .i64 4, Value.int .i64 x1, Value.int .i64 x2, Value.slice a n c] 50)).alloc (Obj.cells #[Value.int .i64 1, Value.int .i64 y1, Value.int .i64 y2, Value.slice a' n' c'] 50)).cell? ⟨w.heap.size + 1, 1, none⟩ = some (.int .i64 y1) := by simp [go_sem]
  have j2 : ((w.alloc (Obj.cells #[Value.int .i64 4, Value.int .i64 x1, Value.int .i64 x2, Value.slice a n c] 50)).alloc (Obj.cells #[Value.int .i64 1, Value.int .i64 y1, Value.int .i64 y2, Value.slice a' n' c'] 50)).cell? ⟨w.heap.size + 1, 2, none⟩ = some (.int .i64 y2) := by simp [go_sem]
  have j3 : ((w.alloc (Obj.cells #[Value.int .i64 4, Value.int .i64 x1, Value.int .i64 x2, Value.slice a n c] 50)).alloc (Obj.cells #[Value.int .i64 1, Value.int .i64 y1, Value.int .i64 y2, Value.slice a' n' c'] 50)).cell? ⟨w.heap.size + 1, 3, none⟩ = some ((.slice a' n' c')) := by simp [go_sem]
  have hmi := meth4
  have hmj := meth1
  go_enter Tryz.func61, Tryz.ntmps61
  go_wp2_with fail
  refine wp_region_wk (fun w' => Mk0 ((w.alloc (Obj.cells #[Value.int .i64 4, Value.int .i64 x1, Value.int .i64 x2, Value.slice a n c] 50)).alloc (Obj.cells #[Value.int .i64 1, Value.int .i64 y1, Value.int .i64 y2, Value.slice a' n' c'] 50)) w' ∧ w'.cell? ⟨w.heap.size, 0, none⟩ = some (.int .i64 4) ∧ w'.cell? ⟨w.heap.size, 1, none⟩ = some (.int .i64 x1) ∧ w'.cell? ⟨w.heap.size, 2, none⟩ = some (.int .i64 x2) ∧ w'.cell? ⟨w.heap.size, 3, none⟩ = some (.slice a n c) ∧ w'.cell? ⟨w.heap.size + 1, 0, none⟩ = some (.int .i64 1) ∧ w'.cell? ⟨w.heap.size + 1, 1, none⟩ = some (.int .i64 y1) ∧ w'.cell? ⟨w.heap.size + 1, 2, none⟩ = some (.int .i64 y2) ∧ w'.cell? ⟨w.heap.size + 1, 3, none⟩ = some ((.slice a' n' c'))) (by kernel_rfl) (by kernel_rfl) (⟨Mk.drew1 _, k0, k1, k2, k3, j0, j1, j2, j3⟩) ?_
  change Wk _ _ _ _ 17 0 _
  first | (refine Wk.skip (m := 16) (k := 0) rfl (by rfl) ?_) | (refine Wk.step (m := 16) (k := 0) (v := _) rfl (by rfl) (fun wv hS => by obtain ⟨s0, s1, s2, s3, s4, s5, s6, s7, s8⟩ := hS; go_simp; try with_reducible rfl) ?_)
  try simp only [Act.put, List.getElem_toArray, List.getElem_cons_zero, List.setIfInBounds_toArray, List.set_cons_zero, List.set_cons_succ]
  first | (refine Wk.skip (m := 15) (k := 1) rfl (by rfl) ?_) | (refine Wk.step (m := 15) (k := 1) (v := _) rfl (by rfl) (fun wv hS => by obtain ⟨s0, s1, s2, s3, s4, s5, s6, s7, s8⟩ := hS; go_simp; try with_reducible rfl) ?_)
  try simp only [Act.put, List.getElem_toArray, List.getElem_cons_succ, List.getElem_cons_zero, List.setIfInBounds_toArray, List.set_cons_zero, List.set_cons_succ]
  refine Wk.call (m := 14) (k := 2) (v := .iface 136 (.agg #[])) _ _ rfl (by rfl) (fun wv hS => by obtain ⟨s0, s1, s2, s3, s4, s5, s6, s7, s8⟩ := hS; go_simp; first | done | exact ⟨rfl, rfl⟩ | with_reducible rfl) (fun wv hS => ?_) ?_; · obtain ⟨s0, s1, s2, s3, s4, s5, s6, s7, s8⟩ := hS; refine (kindIs4 wv).mono ?_; rintro e w' ⟨he, mm⟩; exact ⟨he, ⟨s0.trans mm, mm.cellAt s1, mm.cellAt s2, mm.cellAt s3, mm.cellAt s4, mm.cellAt s5, mm.cellAt s6, mm.cellAt s7, mm.cellAt s8⟩⟩
  try simp only [Act.put, List.getElem_toArray, List.getElem_cons_succ, List.getElem_cons_zero, List.setIfInBounds_toArray, List.set_cons_zero, List.set_cons_succ]
  refine Wk.call (m := 13) (k := 3) (v := .int .i64 2) _ _ rfl (by rfl) (fun wv hS => by obtain ⟨s0, s1, s2, s3, s4, s5, s6, s7, s8⟩ := hS; go_simp; first | done | exact ⟨rfl, rfl⟩ | with_reducible rfl) (fun wv hS => ?_) ?_; · obtain ⟨s0, s1, s2, s3, s4, s5, s6, s7, s8⟩ := hS; refine (place4 wv).mono ?_; rintro e w' ⟨he, mm⟩; exact ⟨he, ⟨s0.trans mm, mm.cellAt s1, mm.cellAt s2, mm.cellAt s3, mm.cellAt s4, mm.cellAt s5, mm.cellAt s6, mm.cellAt s7, mm.cellAt s8⟩⟩
  try simp only [Act.put, List.getElem_toArray, List.getElem_cons_succ, List.getElem_cons_zero, List.setIfInBounds_toArray, List.set_cons_zero, List.set_cons_succ]
  first | (refine Wk.skip (m := 12) (k := 4) rfl (by rfl) ?_) | (refine Wk.step (m := 12) (k := 4) (v := _) rfl (by rfl) (fun wv hS => by obtain ⟨s0, s1, s2, s3, s4, s5, s6, s7, s8⟩ := hS; go_simp; try with_reducible rfl) ?_)
  try simp only [Act.put, List.getElem_toArray, List.getElem_cons_succ, List.getElem_cons_zero, List.setIfInBounds_toArray, List.set_cons_zero, List.set_cons_succ]
  first | (refine Wk.skip (m := 11) (k := 5) rfl (by rfl) ?_) | (refine Wk.step (m := 11) (k := 5) (v := _) rfl (by rfl) (fun wv hS => by obtain ⟨s0, s1, s2, s3, s4, s5, s6, s7, s8⟩ := hS; go_simp; try with_reducible rfl) ?_)
  try simp only [Act.put, List.getElem_toArray, List.getElem_cons_succ, List.getElem_cons_zero, List.setIfInBounds_toArray, List.set_cons_zero, List.set_cons_succ]
  refine Wk.call (m := 10) (k := 6) (v := .iface 133 (.agg #[])) _ _ rfl (by rfl) (fun wv hS => by obtain ⟨s0, s1, s2, s3, s4, s5, s6, s7, s8⟩ := hS; go_simp; first | done | exact ⟨rfl, rfl⟩ | with_reducible rfl) (fun wv hS => ?_) ?_; · obtain ⟨s0, s1, s2, s3, s4, s5, s6, s7, s8⟩ := hS; refine (kindIs1 wv).mono ?_; rintro e w' ⟨he, mm⟩; exact ⟨he, ⟨s0.trans mm, mm.cellAt s1, mm.cellAt s2, mm.cellAt s3, mm.cellAt s4, mm.cellAt s5, mm.cellAt s6, mm.cellAt s7, mm.cellAt s8⟩⟩
  try simp only [Act.put, List.getElem_toArray, List.getElem_cons_succ, List.getElem_cons_zero, List.setIfInBounds_toArray, List.set_cons_zero, List.set_cons_succ]
  refine Wk.call (m := 9) (k := 7) (v := .int .i64 0) _ _ rfl (by rfl) (fun wv hS => by obtain ⟨s0, s1, s2, s3, s4, s5, s6, s7, s8⟩ := hS; go_simp; first | done | exact ⟨rfl, rfl⟩ | with_reducible rfl) (fun wv hS => ?_) ?_; · obtain ⟨s0, s1, s2, s3, s4, s5, s6, s7, s8⟩ := hS; refine (place1 wv).mono ?_; rintro e w' ⟨he, mm⟩; exact ⟨he, ⟨s0.trans mm, mm.cellAt s1, mm.cellAt s2, mm.cellAt s3, mm.cellAt s4, mm.cellAt s5, mm.cellAt s6, mm.cellAt s7, mm.cellAt s8⟩⟩
  try simp only [Act.put, List.getElem_toArray, List.getElem_cons_succ, List.getElem_cons_zero, List.setIfInBounds_toArray, List.set_cons_zero, List.set_cons_succ]
  first | (refine Wk.skip (m := 8) (k := 8) rfl (by rfl) ?_) | (refine Wk.step (m := 8) (k := 8) (v := _) rfl (by rfl) (fun wv hS => by obtain ⟨s0, s1, s2, s3, s4, s5, s6, s7, s8⟩ := hS; go_simp; try with_reducible rfl) ?_)
  try simp only [Act.put, List.getElem_toArray, List.getElem_cons_succ, List.getElem_cons_zero, List.setIfInBounds_toArray, List.set_cons_zero, List.set_cons_succ]
  first | (refine Wk.skip (m := 7) (k := 9) rfl (by rfl) ?_) | (refine Wk.step (m := 7) (k := 9) (v := _) rfl (by rfl) (fun wv hS => by obtain ⟨s0, s1, s2, s3, s4, s5, s6, s7, s8⟩ := hS; go_simp; try with_reducible rfl) ?_)
  try simp only [Act.put, List.getElem_toArray, List.getElem_cons_succ, List.getElem_cons_zero, List.setIfInBounds_toArray, List.set_cons_zero, List.set_cons_succ]
  first | (refine Wk.skip (m := 6) (k := 10) rfl (by rfl) ?_) | (refine Wk.step (m := 6) (k := 10) (v := _) rfl (by rfl) (fun wv hS => by obtain ⟨s0, s1, s2, s3, s4, s5, s6, s7, s8⟩ := hS; go_simp; try with_reducible rfl) ?_)
  try simp only [Act.put, List.getElem_toArray, List.getElem_cons_succ, List.getElem_cons_zero, List.setIfInBounds_toArray, List.set_cons_zero, List.set_cons_succ]
  refine Wk.skip (m := 5) (k := 11) rfl (by rfl) ?_
  try simp only [Act.put, List.getElem_toArray, List.getElem_cons_succ, List.getElem_cons_zero, List.setIfInBounds_toArray, List.set_cons_zero, List.set_cons_succ]
  first | (refine Wk.skip (m := 4) (k := 12) rfl (by rfl) ?_) | (refine Wk.step (m := 4) (k := 12) (v := _) rfl (by rfl) (fun wv hS => by obtain ⟨s0, s1, s2, s3, s4, s5, s6, s7, s8⟩ := hS; go_simp; try with_reducible rfl) ?_)
  try simp only [Act.put, List.getElem_toArray, List.getElem_cons_succ, List.getElem_cons_zero, List.setIfInBounds_toArray, List.set_cons_zero, List.set_cons_succ]
  refine Wk.skip (m := 3) (k := 13) rfl (by rfl) ?_
  try simp only [Act.put, List.getElem_toArray, List.getElem_cons_succ, List.getElem_cons_zero, List.setIfInBounds_toArray, List.set_cons_zero, List.set_cons_succ]
  refine Wk.skip (m := 2) (k := 14) rfl (by rfl) ?_
  try simp only [Act.put, List.getElem_toArray, List.getElem_cons_succ, List.getElem_cons_zero, List.setIfInBounds_toArray, List.set_cons_zero, List.set_cons_succ]
  first | (refine Wk.skip (m := 1) (k := 15) rfl (by rfl) ?_) | (refine Wk.step (m := 1) (k := 15) (v := _) rfl (by rfl) (fun wv hS => by obtain ⟨s0, s1, s2, s3, s4, s5, s6, s7, s8⟩ := hS; go_simp; try with_reducible rfl) ?_)
  try simp only [Act.put, List.getElem_toArray, List.getElem_cons_succ, List.getElem_cons_zero, List.setIfInBounds_toArray, List.set_cons_zero, List.set_cons_succ]
  first | (refine Wk.skip (m := 0) (k := 16) rfl (by rfl) ?_) | (refine Wk.step (m := 0) (k := 16) (v := _) rfl (by rfl) (fun wv hS => by obtain ⟨s0, s1, s2, s3, s4, s5, s6, s7, s8⟩ := hS; go_simp; try with_reducible rfl) ?_)
  try simp only [Act.put, List.getElem_toArray, List.getElem_cons_succ, List.getElem_cons_zero, List.setIfInBounds_toArray, List.set_cons_zero, List.set_cons_succ]
  refine Wk.done fun wE hE => ?_
  clear k0 k1 k2 k3 j0 j1 j2 j3
  obtain ⟨mE, k0, k1, k2, k3, j0, j1, j2, j3⟩ := hE
  go_wp2_with fail
  go_ret
  exact ⟨rfl, M0.trans mE⟩

set_option maxRecDepth 100000 in
set_option maxHeartbeats 4000000 in
theorem implMay42 (x1 x2 : Int) (a : Option Addr) (n c B : Nat) (zs : List THop) (y1 y2 : Int) (a' : Option Addr) (n' c' B' : Nat) (zs' : List THop) (w : World) (h : HasHop w B a n zs) (hB : B ≤ w.heap.size) (hn : n ≤ 1048576) (h' : HasHop w B' a' n' zs') (hB' : B' ≤ w.heap.size) (hn' : n' ≤ 1048576) :
    Calls Tryz.prog 61 #[.agg #[.int .i64 4, .int .i64 x1, .int .i64 x2, .slice a n c], .agg #[.int .i64 2, .int .i64 y1, .int .i64 y2, .slice a' n' c']] w fun e w' => e = .returned (.bool (false)) ∧ Mk0 w w' := by
  have M0 := (Mk.alloc w (Obj.cells #[Value.int .i64 4, Value.int .i64 x1, Value.int .i64 x2, Value.slice a n c] 50)).new (Obj.cells #[Value.int .i64 2, Value.int .i64 y1, Value.int .i64 y2, Value.slice a' n' c'] 50)
  have k0 : ((w.alloc (Obj.cells #[Value.int .i64 4, Value.int .i64 x1, Value.int .i64 x2, Value.slice a n c] 50)).alloc (Obj.cells #[Value.int .i64 2, Value.int .i64 y1, Value.int .i64 y2, Value.slice a' n' c'] 50)).cell? ⟨w.heap.size, 0, none⟩ = some (.int .i64 4) := by simp [go_sem]
  have k1 : ((w.alloc (Obj.cells #[Value.int .i64 4, Value.int .i64 x1, Value.int .i64 x2, Value.slice a n c] 50)).alloc (Obj.cells #[Value.int .i64 2, Value.int .i64 y1, Value.int .i64 y2, Value.slice a' n' c'] 50)).cell? ⟨w.heap.size, 1, none⟩ = some (.int .i64 x1) := by simp [go_sem]
  have k2 : ((w.alloc (Obj.cells #[Value.int .i64 4, Value.int .i64 x1, Value.int .i64 x2, Value.slice a n c] 50)).alloc (Obj.cells #[Value.int .i64 2, Value.int .i64 y1, Value.int .i64 y2, Value.slice a' n' c'] 50)).cell? ⟨w.heap.size, 2, none⟩ = some (.int .i64 x2) := by simp [go_sem]
  have k3 : ((w.alloc (Obj.cells #[Value.int .i64 4, Value.int .i64 x1, Value.int .i64 x2, Value.slice a n c] 50)).alloc (Obj.cells #[Value.int .i64 2, Value.int .i64 y1, Value.int .i64 y2, Value.slice a' n' c'] 50)).cell? ⟨w.heap.size, 3, none⟩ = some (.slice a n c) := by simp [go_sem]
  have j0 : ((w.alloc (Obj.cells #[Value.int .i64 4, Value.int .i64 x1, Value.int .i64 x2, Value.slice a n c] 50)).alloc (Obj.cells #[Value.int .i64 2, Value.int .i64 y1, Value.int .i64 y2, Value.slice a' n' c'] 50)).cell? ⟨w.heap.size + 1, 0, none⟩ = some (.int .i64 2) := by simp [go_sem]
  have j1 : ((w.alloc (Obj.cells #[Value.int .i64 4, Value.int .i64 x1, Value.int .i64 x2, Value.slice a n c] 50)).alloc (Obj.cells #[Value.int .i64 2, Value.int .i64 y1, Value.int .i64 y2, Value.slice a' n' c'] 50)).cell? ⟨w.heap.size + 1, 1, none⟩ = some (.int .i64 y1) := by simp [go_sem]
  have j2 : ((w.alloc (Obj.cells #[Value.int .i64 4, Value.int .i64 x1, Value.int .i64 x2, Value.slice a n c] 50)).alloc (Obj.cells #[Value.int .i64 2, Value.int .i64 y1, Value.int .i64 y2, Value.slice a' n' c'] 50)).cell? ⟨w.heap.size + 1, 2, none⟩ = some (.int .i64 y2) := by simp [go_sem]
  have j3 : ((w.alloc (Obj.cells #[Value.int .i64 4, Value.int .i64 x1, Value.int .i64 x2, Value.slice a n c] 50)).alloc (Obj.cells #[Value.int .i64 2, Value.int .i64 y1, Value.int .i64 y2, Value.slice a' n' c'] 50)).cell? ⟨w.heap.size + 1, 3, none⟩ = some ((.slice a' n' c')) := by simp [go_sem]
  have hmi := meth4
  have hmj := meth2
  go_enter Tryz.func61, Tryz.ntmps61
  go_wp2_with fail
  refine wp_region_wk (fun w' => Mk0 ((w.alloc (Obj.cells #[Value.int .i64 4, Value.int .i64 x1, Value.int .i64 x2, Value.slice a n c] 50)).alloc (Obj.cells #[Value.int .i64 2, Value.int .i64 y1, Value.int .i64 y2, Value.slice a' n' c'] 50)) w' ∧ w'.cell? ⟨w.heap.size, 0, none⟩ = some (.int .i64 4) ∧ w'.cell? ⟨w.heap.size, 1, none⟩ = some (.int .i64 x1) ∧ w'.cell? ⟨w.heap.size, 2, none⟩ = some (.int .i64 x2) ∧ w'.cell? ⟨w.heap.size, 3, none⟩ = some (.slice a n c) ∧ w'.cell? ⟨w.heap.size + 1, 0, none⟩ = some (.int .i64 2) ∧ w'.cell? ⟨w.heap.size + 1, 1, none⟩ = some (.int .i64 y1) ∧ w'.cell? ⟨w.heap.size + 1, 2, none⟩ = some (.int .i64 y2) ∧ w'.cell? ⟨w.heap.size + 1, 3, none⟩ = some ((.slice a' n' c'))) (by kernel_rfl) (by kernel_rfl) (⟨Mk.drew1 _, k0, k1, k2, k3, j0, j1, j2, j3⟩) ?_
  change Wk _ _ _ _ 17 0 _
  first | (refine Wk.skip (m := 16) (k := 0) rfl (by rfl) ?_) | (refine Wk.step (m := 16) (k := 0) (v := _) rfl (by rfl) (fun wv hS => by obtain ⟨s0, s1, s2, s3, s4, s5, s6, s7, s8⟩ := hS; go_simp; try with_reducible rfl) ?_)
  try simp only [Act.put, List.getElem_toArray, List.getElem_cons_zero, List.setIfInBounds_toArray, List.set_cons_zero, List.set_cons_succ]
  first | (refine Wk.skip (m := 15) (k := 1) rfl (by rfl) ?_) | (refine Wk.step (m := 15) (k := 1) (v := _) rfl (by rfl) (fun wv hS => by obtain ⟨s0, s1, s2, s3, s4, s5, s6, s7, s8⟩ := hS; go_simp; try with_reducible rfl) ?_)
  try simp only [Act.put, List.getElem_toArray, List.getElem_cons_succ, List.getElem_cons_zero, List.setIfInBounds_toArray, List.set_cons_zero, List.set_cons_succ]
  refine Wk.call (m := 14) (k := 2) (v := .iface 136 (.agg #[])) _ _ rfl (by rfl) (fun wv hS => by obtain ⟨s0, s1, s2, s3, s4, s5, s6, s7, s8⟩ := hS; go_simp; first | done | exact ⟨rfl, rfl⟩ | with_reducible rfl) (fun wv hS => ?_) ?_; · obtain ⟨s0, s1, s2, s3, s4, s5, s6, s7, s8⟩ := hS; refine (kindIs4 wv).mono ?_; rintro e w' ⟨he, mm⟩; exact ⟨he, ⟨s0.trans mm, mm.cellAt s1, mm.cellAt s2, mm.cellAt s3, mm.cellAt s4, mm.cellAt s5, mm.cellAt s6, mm.cellAt s7, mm.cellAt s8⟩⟩
  try simp only [Act.put, List.getElem_toArray, List.getElem_cons_succ, List.getElem_cons_zero, List.setIfInBounds_toArray, List.set_cons_zero, List.set_cons_succ]
  refine Wk.call (m := 13) (k := 3) (v := .int .i64 2) _ _ rfl (by rfl) (fun wv hS => by obtain ⟨s0, s1, s2, s3, s4, s5, s6, s7, s8⟩ := hS; go_simp; first | done | exact ⟨rfl, rfl⟩ | with_reducible rfl) (fun wv hS => ?_) ?_; · obtain ⟨s0, s1, s2, s3, s4, s5, s6, s7, s8⟩ := hS; refine (place4 wv).mono ?_; rintro e w' ⟨he, mm⟩; exact ⟨he, ⟨s0.trans mm, mm.cellAt s1, mm.cellAt s2, mm.cellAt s3, mm.cellAt s4, mm.cellAt s5, mm.cellAt s6, mm.cellAt s7, mm.cellAt s8⟩⟩
  try simp only [Act.put, List.getElem_toArray, List.getElem_cons_succ, List.getElem_cons_zero, List.setIfInBounds_toArray, List.set_cons_zero, List.set_cons_succ]
  first | (refine Wk.skip (m := 12) (k := 4) rfl (by rfl) ?_) | (refine Wk.step (m := 12) (k := 4) (v := _) rfl (by rfl) (fun wv hS => by obtain ⟨s0, s1, s2, s3, s4, s5, s6, s7, s8⟩ := hS; go_simp; try with_reducible rfl) ?_)
  try simp only [Act.put, List.getElem_toArray, List.getElem_cons_succ, List.getElem_cons_zero, List.setIfInBounds_toArray, List.set_cons_zero, List.set_cons_succ]
  first | (refine Wk.skip (m := 11) (k := 5) rfl (by rfl) ?_) | (refine Wk.step (m := 11) (k := 5) (v := _) rfl (by rfl) (fun wv hS => by obtain ⟨s0, s1, s2, s3, s4, s5, s6, s7, s8⟩ := hS; go_simp; try with_reducible rfl) ?_)
  try simp only [Act.put, List.getElem_toArray, List.getElem_cons_succ, List.getElem_cons_zero, List.setIfInBounds_toArray, List.set_cons_zero, List.set_cons_succ]
  refine Wk.call (m := 10) (k := 6) (v := .iface 134 (.agg #[])) _ _ rfl (by rfl) (fun wv hS => by obtain ⟨s0, s1, s2, s3, s4, s5, s6, s7, s8⟩ := hS; go_simp; first | done | exact ⟨rfl, rfl⟩ | with_reducible rfl) (fun wv hS => ?_) ?_; · obtain ⟨s0, s1, s2, s3, s4, s5, s6, s7, s8⟩ := hS; refine (kindIs2 wv).mono ?_; rintro e w' ⟨he, mm⟩; exact ⟨he, ⟨s0.trans mm, mm.cellAt s1, mm.cellAt s2, mm.cellAt s3, mm.cellAt s4, mm.cellAt s5, mm.cellAt s6, mm.cellAt s7, mm.cellAt s8⟩⟩
  try simp only [Act.put, List.getElem_toArray, List.getElem_cons_succ, List.getElem_cons_zero, List.setIfInBounds_toArray, List.set_cons_zero, List.set_cons_succ]
  refine Wk.call (m := 9) (k := 7) (v := .int .i64 1) _ _ rfl (by rfl) (fun wv hS => by obtain ⟨s0, s1, s2, s3, s4, s5, s6, s7, s8⟩ := hS; go_simp; first | done | exact ⟨rfl, rfl⟩ | with_reducible rfl) (fun wv hS => ?_) ?_; · obtain ⟨s0, s1, s2, s3, s4, s5, s6, s7, s8⟩ := hS; refine (place2 wv).mono ?_; rintro e w' ⟨he, mm⟩; exact ⟨he, ⟨s0.trans mm, mm.cellAt s1, mm.cellAt s2, mm.cellAt s3, mm.cellAt s4, mm.cellAt s5, mm.cellAt s6, mm.cellAt s7, mm.cellAt s8⟩⟩
  try simp only [Act.put, List.getElem_toArray, List.getElem_cons_succ, List.getElem_cons_zero, List.setIfInBounds_toArray, List.set_cons_zero, List.set_cons_succ]
  first | (refine Wk.skip (m := 8) (k := 8) rfl (by rfl) ?_) | (refine Wk.step (m := 8) (k := 8) (v := _) rfl (by rfl) (fun wv hS => by obtain ⟨s0, s1, s2, s3, s4, s5, s6, s7, s8⟩ := hS; go_simp; try with_reducible rfl) ?_)
  try simp only [Act.put, List.getElem_toArray, List.getElem_cons_succ, List.getElem_cons_zero, List.setIfInBounds_toArray, List.set_cons_zero, List.set_cons_succ]
  first | (refine Wk.skip (m := 7) (k := 9) rfl (by rfl) ?_) | (refine Wk.step (m := 7) (k := 9) (v := _) rfl (by rfl) (fun wv hS => by obtain ⟨s0, s1, s2, s3, s4, s5, s6, s7, s8⟩ := hS; go_simp; try with_reducible rfl) ?_)
  try simp only [Act.put, List.getElem_toArray, List.getElem_cons_succ, List.getElem_cons_zero, List.setIfInBounds_toArray, List.set_cons_zero, List.set_cons_succ]
  first | (refine Wk.skip (m := 6) (k := 10) rfl (by rfl) ?_) | (refine Wk.step (m := 6) (k := 10) (v := _) rfl (by rfl) (fun wv hS => by obtain ⟨s0, s1, s2, s3, s4, s5, s6, s7, s8⟩ := hS; go_simp; try with_reducible rfl) ?_)
  try simp only [Act.put, List.getElem_toArray, List.getElem_cons_succ, List.getElem_cons_zero, List.setIfInBounds_toArray, List.set_cons_zero, List.set_cons_succ]
  refine Wk.skip (m := 5) (k := 11) rfl (by rfl) ?_
  try simp only [Act.put, List.getElem_toArray, List.getElem_cons_succ, List.getElem_cons_zero, List.setIfInBounds_toArray, List.set_cons_zero, List.set_cons_succ]
  first | (refine Wk.skip (m := 4) (k := 12) rfl (by rfl) ?_) | (refine Wk.step (m := 4) (k := 12) (v := _) rfl (by rfl) (fun wv hS => by obtain ⟨s0, s1, s2, s3, s4, s5, s6, s7, s8⟩ := hS; go_simp; try with_reducible rfl) ?_)
  try simp only [Act.put, List.getElem_toArray, List.getElem_cons_succ, List.getElem_cons_zero, List.setIfInBounds_toArray, List.set_cons_zero, List.set_cons_succ]
  refine Wk.skip (m := 3) (k := 13) rfl (by rfl) ?_
  try simp only [Act.put, List.getElem_toArray, List.getElem_cons_succ, List.getElem_cons_zero, List.setIfInBounds_toArray, List.set_cons_zero, List.set_cons_succ]
  refine Wk.skip (m := 2) (k := 14) rfl (by rfl) ?_
  try simp only [Act.put, List.getElem_toArray, List.getElem_cons_succ, List.getElem_cons_zero, List.setIfInBounds_toArray, List.set_cons_zero, List.set_cons_succ]
  first | (refine Wk.skip (m := 1) (k := 15) rfl (by rfl) ?_) | (refine Wk.step (m := 1) (k := 15) (v := _) rfl (by rfl) (fun wv hS => by obtain ⟨s0, s1, s2, s3, s4, s5, s6, s7, s8⟩ := hS; go_simp; try with_reducible rfl) ?_)
  try simp only [Act.put, List.getElem_toArray, List.getElem_cons_succ, List.getElem_cons_zero, List.setIfInBounds_toArray, List.set_cons_zero, List.set_cons_succ]
  first | (refine Wk.skip (m := 0) (k := 16) rfl (by rfl) ?_) | (refine Wk.step (m := 0) (k := 16) (v := _) rfl (by rfl) (fun wv hS => by obtain ⟨s0, s1, s2, s3, s4, s5, s6, s7, s8⟩ := hS; go_simp; try with_reducible rfl) ?_)
  try simp only [Act.put, List.getElem_toArray, List.getElem_cons_succ, List.getElem_cons_zero, List.setIfInBounds_toArray, List.set_cons_zero, List.set_cons_succ]
  refine Wk.done fun wE hE => ?_
  clear k0 k1 k2 k3 j0 j1 j2 j3
  obtain ⟨mE, k0, k1, k2, k3, j0, j1, j2, j3⟩ := hE
  go_wp2_with fail
  go_ret
  exact ⟨rfl, M0.trans mE⟩

set_option maxRecDepth 100000 in
set_option maxHeartbeats 4000000 in
theorem implMay43 (x1 x2 : Int) (a : Option Addr) (n c B : Nat) (zs : List THop) (y1 y2 : Int) (a' : Option Addr) (n' c' B' : Nat) (zs' : List THop) (w : World) (h : HasHop w B a n zs) (hB : B ≤ w.heap.size) (hn : n ≤ 1048576) (h' : HasHop w B' a' n' zs') (hB' : B' ≤ w.heap.size) (hn' : n' ≤ 1048576) :
    Calls Tryz.prog 61 #[.agg #[.int .i64 4, .int .i64 x1, .int .i64 x2, .slice a n c], .agg #[.int .i64 3, .int .i64 y1, .int .i64 y2, .slice a' n' c']] w fun e w' => e = .returned (.bool (false)) ∧ Mk0 w w' := by
  have M0 := (Mk.alloc w (Obj.cells #[Value.int .i64 4, Value.int .i64 x1, Value.int .i64 x2, Value.slice a n c] 50)).new (Obj.cells #[Value.int .i64 3, Value.int .i64 y1, Value.int .i64 y2, Value.slice a' n' c'] 50)
  have k0 : ((w.alloc (Obj.cells #[Value.int .i64 4, Value.int .i64 x1, Value.int .i64 x2, Value.slice a n c] 50)).alloc (Obj.cells #[Value.int .i64 3, Value.int .i64 y1, Value.int .i64 y2, Value.slice a' n' c'] 50)).cell? ⟨w.heap.size, 0, none⟩ = some (.int .i64 4) := by simp [go_sem]
  have k1 : ((w.alloc (Obj.cells #[Value.int .i64 4, Value.int .i64 x1, Value.int .i64 x2, Value.slice a n c] 50)).alloc (Obj.cells #[Value.int .i64 3, Value.int .i64 y1, Value.int .i64 y2, Value.slice a' n' c'] 50)).cell? ⟨w.heap.size, 1, none⟩ = some (.int .i64 x1) := by simp [go_sem]
  have k2 : ((w.alloc (Obj.cells #[Value.int .i64 4, Value.int .i64 x1, Value.int .i64 x2, Value.slice a n c] 50)).alloc (Obj.cells #[Value.int .i64 3, Value.int .i64 y1, Value.int .i64 y2, Value.slice a' n' c'] 50)).cell? ⟨w.heap.size, 2, none⟩ = some (.int .i64 x2) := by simp [go_sem]
  have k3 : ((w.alloc (Obj.cells #[Value.int .i64 4, Value.int .i64 x1, Value.int .i64 x2, Value.slice a n c] 50)).alloc (Obj.cells #[Value.int .i64 3, Value.int .i64 y1, Value.int .i64 y2, Value.slice a' n' c'] 50)).cell? ⟨w.heap.size, 3, none⟩ = some (.slice a n c) := by simp [go_sem]
  have j0 : ((w.alloc (Obj.cells #[Value.int .i64 4, Value.int .i64 x1, Value.int .i64 x2, Value.slice a n c] 50)).alloc (Obj.cells #[Value.int .i64 3, Value.int .i64 y1, Value.int .i64 y2, Value.slice a' n' c'] 50)).cell? ⟨w.heap.size + 1, 0, none⟩ = some (.int .i64 3) := by simp [go_sem]
  have j1 : ((w.alloc (Obj.cells #[Value.int .i64 4, Value.int .i64 x1, Value.int .i64 x2, Value.slice a n c] 50)).alloc (Obj.cells #[Value.int .i64 3, Value.int .i64 y1, Value.int .i64 y2, Value.slice a' n' c'] 50)).cell? ⟨w.heap.size + 1, 1, none⟩ = some (.int .i64 y1) := by simp [go_sem]
  have j2 : ((w.alloc (Obj.cells #[Value.int .i64 4, Value.int .i64 x1, Value.int .i64 x2, Value.slice a n c] 50)).alloc (Obj.cells #[Value.int .i64 3, Value.int .i64 y1, Value.int .i64 y2, Value.slice a' n' c'] 50)).cell? ⟨w.heap.size + 1, 2, none⟩ = some (.int .i64 y2) := by simp [go_sem]
  have j3 : ((w.alloc (Obj.cells #[Value.int .i64 4, Value.int .i64 x1, Value.int .i64 x2, Value.slice a n c] 50)).alloc (Obj.cells #[Value.int .i64 3, Value.int .i64 y1, Value.int .i64 y2, Value.slice a' n' c'] 50)).cell? ⟨w.heap.size + 1, 3, none⟩ = some ((.slice a' n' c')) := by simp [go_sem]
  have hmi := meth4
  have hmj := meth3
  go_enter Tryz.func61, Tryz.ntmps61
  go_wp2_with fail
  refine wp_region_wk (fun w' => Mk0 ((w.alloc (Obj.cells #[Value.int .i64 4, Value.int .i64 x1, Value.int .i64 x2, Value.slice a n c] 50)).alloc (Obj.cells #[Value.int .i64 3, Value.int .i64 y1, Value.int .i64 y2, Value.slice a' n' c'] 50)) w' ∧ w'.cell? ⟨w.heap.size, 0, none⟩ = some (.int .i64 4) ∧ w'.cell? ⟨w.heap.size, 1, none⟩ = some (.int .i64 x1) ∧ w'.cell? ⟨w.heap.size, 2, none⟩ = some (.int .i64 x2) ∧ w'.cell? ⟨w.heap.size, 3, none⟩ = some (.slice a n c) ∧ w'.cell? ⟨w.heap.size + 1, 0, none⟩ = some (.int .i64 3) ∧ w'.cell? ⟨w.heap.size + 1, 1, none⟩ = some (.int .i64 y1) ∧ w'.cell? ⟨w.heap.size + 1, 2, none⟩ = some (.int .i64 y2) ∧ w'.cell? ⟨w.heap.size + 1, 3, none⟩ = some ((.slice a' n' c'))) (by kernel_rfl) (by kernel_rfl) (⟨Mk.drew1 _, k0, k1, k2, k3, j0, j1, j2, j3⟩) ?_
  change Wk _ _ _ _ 17 0 _
  first | (refine Wk.skip (m := 16) (k := 0) rfl (by rfl) ?_) | (refine Wk.step (m := 16) (k := 0) (v := _) rfl (by rfl) (fun wv hS => by obtain ⟨s0, s1, s2, s3, s4, s5, s6, s7, s8⟩ := hS; go_simp; try with_reducible rfl) ?_)
  try simp only [Act.put, List.getElem_toArray, List.getElem_cons_zero, List.setIfInBounds_toArray, List.set_cons_zero, List.set_cons_succ]
  first | (refine Wk.skip (m := 15) (k := 1) rfl (by rfl) ?_) | (refine Wk.step (m := 15) (k := 1) (v := _) rfl (by rfl) (fun wv hS => by obtain ⟨s0, s1, s2, s3, s4, s5, s6, s7, s8⟩ := hS; go_simp; try with_reducible rfl) ?_)
  try simp only [Act.put, List.getElem_toArray, List.getElem_cons_succ, List.getElem_cons_zero, List.setIfInBounds_toArray, List.set_cons_zero, List.set_cons_succ]
  refine Wk.call (m := 14) (k := 2) (v := .iface 136 (.agg #[])) _ _ rfl (by rfl) (fun wv hS => by obtain ⟨s0, s1, s2, s3, s4, s5, s6, s7, s8⟩ := hS; go_simp; first | done | exact ⟨rfl, rfl⟩ | with_reducible rfl) (fun wv hS => ?_) ?_; · obtain ⟨s0, s1, s2, s3, s4, s5, s6, s7, s8⟩ := hS; refine (kindIs4 wv).mono ?_; rintro e w' ⟨he, mm⟩; exact ⟨he, ⟨s0.trans mm, mm.cellAt s1, mm.cellAt s2, mm.cellAt s3, mm.cellAt s4, mm.cellAt s5, mm.cellAt s6, mm.cellAt s7, mm.cellAt s8⟩⟩
  try simp only [Act.put, List.getElem_toArray, List.getElem_cons_succ, List.getElem_cons_zero, List.setIfInBounds_toArray, List.set_cons_zero, List.set_cons_succ]
  refine Wk.call (m := 13) (k := 3) (v := .int .i64 2) _ _ rfl (by rfl) (fun wv hS => by obtain ⟨s0, s1, s2, s3, s4, s5, s6, s7, s8⟩ := hS; go_simp; first | done | exact ⟨rfl, rfl⟩ | with_reducible rfl) (fun wv hS => ?_) ?_; · obtain ⟨s0, s1, s2, s3, s4, s5, s6, s7, s8⟩ := hS; refine (place4 wv).mono ?_; rintro e w' ⟨he, mm⟩; exact ⟨he, ⟨s0.trans mm, mm.cellAt s1, mm.cellAt s2, mm.cellAt s3, mm.cellAt s4, mm.cellAt s5, mm.cellAt s6, mm.cellAt s7, mm.cellAt s8⟩⟩
  try simp only [Act.put, List.getElem_toArray, List.getElem_cons_succ, List.getElem_cons_zero, List.setIfInBounds_toArray, List.set_cons_zero, List.set_cons_succ]
  first | (refine Wk.skip (m := 12) (k := 4) rfl (by rfl) ?_) | (refine Wk.step (m := 12) (k := 4) (v := _) rfl (by rfl) (fun wv hS => by obtain ⟨s0, s1, s2, s3, s4, s5, s6, s7, s8⟩ := hS; go_simp; try with_reducible rfl) ?_)
  try simp only [Act.put, List.getElem_toArray, List.getElem_cons_succ, List.getElem_cons_zero, List.setIfInBounds_toArray, List.set_cons_zero, List.set_cons_succ]
  first | (refine Wk.skip (m := 11) (k := 5) rfl (by rfl) ?_) | (refine Wk.step (m := 11) (k := 5) (v := _) rfl (by rfl) (fun wv hS => by obtain ⟨s0, s1, s2, s3, s4, s5, s6, s7, s8⟩ := hS; go_simp; try with_reducible rfl) ?_)
  try simp only [Act.put, List.getElem_toArray, List.getElem_cons_succ, List.getElem_cons_zero, List.setIfInBounds_toArray, List.set_cons_zero, List.set_cons_succ]
  refine Wk.call (m := 10) (k := 6) (v := .iface 135 (.agg #[])) _ _ rfl (by rfl) (fun wv hS => by obtain ⟨s0, s1, s2, s3, s4, s5, s6, s7, s8⟩ := hS; go_simp; first | done | exact ⟨rfl, rfl⟩ | with_reducible rfl) (fun wv hS => ?_) ?_; · obtain ⟨s0, s1, s2, s3, s4, s5, s6, s7, s8⟩ := hS; refine (kindIs3 wv).mono ?_; rintro e w' ⟨he, mm⟩; exact ⟨he, ⟨s0.trans mm, mm.cellAt s1, mm.cellAt s2, mm.cellAt s3, mm.cellAt s4, mm.cellAt s5, mm.cellAt s6, mm.cellAt s7, mm.cellAt s8⟩⟩
  try simp only [Act.put, List.getElem_toArray, List.getElem_cons_succ, List.getElem_cons_zero, List.setIfInBounds_toArray, List.set_cons_zero, List.set_cons_succ]
  refine Wk.call (m := 9) (k := 7) (v := .int .i64 1) _ _ rfl (by rfl) (fun wv hS => by obtain ⟨s0, s1, s2, s3, s4, s5, s6, s7, s8⟩ := hS; go_simp; first | done | exact ⟨rfl, rfl⟩ | with_reducible rfl) (fun wv hS => ?_) ?_; · obtain ⟨s0, s1, s2, s3, s4, s5, s6, s7, s8⟩ := hS; refine (place3 wv).mono ?_; rintro e w' ⟨he, mm⟩; exact ⟨he, ⟨s0.trans mm, mm.cellAt s1, mm.cellAt s2, mm.cellAt s3, mm.cellAt s4, mm.cellAt s5, mm.cellAt s6, mm.cellAt s7, mm.cellAt s8⟩⟩
  try simp only [Act.put, List.getElem_toArray, List.getElem_cons_succ, List.getElem_cons_zero, List.setIfInBounds_toArray, List.set_cons_zero, List.set_cons_succ]
  first | (refine Wk.skip (m := 8) (k := 8) rfl (by rfl) ?_) | (refine Wk.step (m := 8) (k := 8) (v := _) rfl (by rfl) (fun wv hS => by obtain ⟨s0, s1, s2, s3, s4, s5, s6, s7, s8⟩ := hS; go_simp; try with_reducible rfl) ?_)
  try simp only [Act.put, List.getElem_toArray, List.getElem_cons_succ, List.getElem_cons_zero, List.setIfInBounds_toArray, List.set_cons_zero, List.set_cons_succ]
  first | (refine Wk.skip (m := 7) (k := 9) rfl (by rfl) ?_) | (refine Wk.step (m := 7) (k := 9) (v := _) rfl (by rfl) (fun wv hS => by obtain ⟨s0, s1, s2, s3, s4, s5, s6, s7, s8⟩ := hS; go_simp; try with_reducible rfl) ?_)
  try simp only [Act.put, List.getElem_toArray, List.getElem_cons_succ, List.getElem_cons_zero, List.setIfInBounds_toArray, List.set_cons_zero, List.set_cons_succ]
  first | (refine Wk.skip (m := 6) (k := 10) rfl (by rfl) ?_) | (refine Wk.step (m := 6) (k := 10) (v := _) rfl (by rfl) (fun wv hS => by obtain ⟨s0, s1, s2, s3, s4, s5, s6, s7, s8⟩ := hS; go_simp; try with_reducible rfl) ?_)
  try simp only [Act.put, List.getElem_toArray, List.getElem_cons_succ, List.getElem_cons_zero, List.setIfInBounds_toArray, List.set_cons_zero, List.set_cons_succ]
  refine Wk.skip (m := 5) (k := 11) rfl (by rfl) ?_
  try simp only [Act.put, List.getElem_toArray, List.getElem_cons_succ, List.getElem_cons_zero, List.setIfInBounds_toArray, List.set_cons_zero, List.set_cons_succ]
  first | (refine Wk.skip (m := 4) (k := 12) rfl (by rfl) ?_) | (refine Wk.step (m := 4) (k := 12) (v := _) rfl (by rfl) (fun wv hS => by obtain ⟨s0, s1, s2, s3, s4, s5, s6, s7, s8⟩ := hS; go_simp; try with_reducible rfl) ?_)
  try simp only [Act.put, List.getElem_toArray, List.getElem_cons_succ, List.getElem_cons_zero, List.setIfInBounds_toArray, List.set_cons_zero, List.set_cons_succ]
  refine Wk.skip (m := 3) (k := 13) rfl (by rfl) ?_
  try simp only [Act.put, List.getElem_toArray, List.getElem_cons_succ, List.getElem_cons_zero, List.setIfInBounds_toArray, List.set_cons_zero, List.set_cons_succ]
  refine Wk.skip (m := 2) (k := 14) rfl (by rfl) ?_
  try simp only [Act.put, List.getElem_toArray, List.getElem_cons_succ, List.getElem_cons_zero, List.setIfInBounds_toArray, List.set_cons_zero, List.set_cons_succ]
  first | (refine Wk.skip (m := 1) (k := 15) rfl (by rfl) ?_) | (refine Wk.step (m := 1) (k := 15) (v := _) rfl (by rfl) (fun wv hS => by obtain ⟨s0, s1, s2, s3, s4, s5, s6, s7, s8⟩ := hS; go_simp; try with_reducible rfl) ?_)
  try simp only [Act.put, List.getElem_toArray, List.getElem_cons_succ, List.getElem_cons_zero, List.setIfInBounds_toArray, List.set_cons_zero, List.set_cons_succ]
  first | (refine Wk.skip (m := 0) (k := 16) rfl (by rfl) ?_) | (refine Wk.step (m := 0) (k := 16) (v := _) rfl (by rfl) (fun wv hS => by obtain ⟨s0, s1, s2, s3, s4, s5, s6, s7, s8⟩ := hS; go_simp; try with_reducible rfl) ?_)
  try simp only [Act.put, List.getElem_toArray, List.getElem_cons_succ, List.getElem_cons_zero, List.setIfInBounds_toArray, List.set_cons_zero, List.set_cons_succ]
  refine Wk.done fun wE hE => ?_
  clear k0 k1 k2 k3 j0 j1 j2 j3
  obtain ⟨mE, k0, k1, k2, k3, j0, j1, j2, j3⟩ := hE
  go_wp2_with fail
  go_ret
  exact ⟨rfl, M0.trans mE⟩

set_option maxRecDepth 100000 in
set_option maxHeartbeats 4000000 in
theorem implMay44 (x1 x2 : Int) (a : Option Addr) (n c B : Nat) (zs : List THop) (y1 y2 : Int) (a' : Option Addr) (n' c' B' : Nat) (zs' : List THop) (w : World) (h : HasHop w B a n zs) (hB : B ≤ w.heap.size) (hn : n ≤ 1048576) (h' : HasHop w B' a' n' zs') (hB' : B' ≤ w.heap.size) (hn' : n' ≤ 1048576) :
    Calls Tryz.prog 61 #[.agg #[.int .i64 4, .int .i64 x1, .int .i64 x2, .slice a n c], .agg #[.int .i64 4, .int .i64 y1, .int .i64 y2, .slice a' n' c']] w fun e w' => e = .returned (.bool (false)) ∧ Mk0 w w' := by
  have M0 := (Mk.alloc w (Obj.cells #[Value.int .i64 4, Value.int .i64 x1, Value.int .i64 x2, Value.slice a n c] 50)).new (Obj.cells #[Value.int .i64 4, Value.int .i64 y1, Value.int .i64 y2, Value.slice a' n' c'] 50)
  have k0 : ((w.alloc (Obj.cells #[Value.int .i64 4, Value.int .i64 x1, Value.int .i64 x2, Value.slice a n c] 50)).alloc (Obj.cells #[Value.int .i64 4, Value.int .i64 y1, Value.int .i64 y2, Value.slice a' n' c'] 50)).cell? ⟨w.heap.size, 0, none⟩ = some (.int .i64 4) := by simp [go_sem]
  have k1 : ((w.alloc (Obj.cells #[Value.int .i64 4, Value.int .i64 x1, Value.int .i64 x2, Value.slice a n c] 50)).alloc (Obj.cells #[Value.int .i64 4, Value.int .i64 y1, Value.int .i64 y2, Value.slice a' n' c'] 50)).cell? ⟨w.heap.size, 1, none⟩ = some (.int .i64 x1) := by simp [go_sem]
  have k2 : ((w.alloc (Obj.cells #[Value.int .i64 4, Value.int .i64 x1, Value.int .i64 x2, Value.slice a n c] 50)).alloc (Obj.cells #[Value.int .i64 4, Value.int .i64 y1, Value.int .i64 y2, Value.slice a' n' c'] 50)).cell? ⟨w.heap.size, 2, none⟩ = some (.int .i64 x2) := by simp [go_sem]
  have k3 : ((w.alloc (Obj.cells #[Value.int .i64 4, Value.int .i64 x1, Value.int .i64 x2, Value.slice a n c] 50)).alloc (Obj.cells #[Value.int .i64 4, Value.int .i64 y1, Value.int .i64 y2, Value.slice a' n' c'] 50)).cell? ⟨w.heap.size, 3, none⟩ = some (.slice a n c) := by simp [go_sem]
  have j0 : ((w.alloc (Obj.cells #[Value.int .i64 4, Value.int .i64 x1, Value.int .i64 x2, Value.slice a n c] 50)).alloc (Obj.cells #[Value.int .i64 4, Value.int .i64 y1, Value.int .i64 y2, Value.slice a' n' c'] 50)).cell? ⟨w.heap.size + 1, 0, none⟩ = some (.int .i64 4) := by simp [go_sem]
  have j1 : ((w.alloc (Obj.cells #[Value.int .i64 4, Value.int .i64 x1, Value.int .i64 x2, Value.slice a n c] 50)).alloc (Obj.cells #[Value.int .i64 4, Value.int .i64 y1, Value.int .i64 y2, Value.slice a' n' c'] 50)).cell? ⟨w.heap.size + 1, 1, none⟩ = some (.int .i64 y1) := by simp [go_sem]
  have j2 : ((w.alloc (Obj.cells #[Value.int .i64 4, Value.int .i64 x1, Value.int .i64 x2, Value.slice a n c] 50)).alloc (Obj.cells #[Value.int .i64 4, Value.int .i64 y1, Value.int .i64 y2, Value.slice a' n' c'] 50)).cell? ⟨w.heap.size + 1, 2, none⟩ = some (.int .i64 y2) := by simp [go_sem]
  have j3 : ((w.alloc (Obj.cells #[Value.int .i64 4, Value.int .i64 x1, Value.int .i64 x2, Value.slice a n c] 50)).alloc (Obj.cells #[Value.int .i64 4, Value.int .i64 y1, Value.int .i64 y2, Value.slice a' n' c'] 50)).cell? ⟨w.heap.size + 1, 3, none⟩ = some ((.slice a' n' c')) := by simp [go_sem]
  have hmi := meth4
  go_enter Tryz.func61, Tryz.ntmps61
  go_wp2_with fail
  refine wp_region_wk (fun w' => Mk0 ((w.alloc (Obj.cells #[Value.int .i64 4, Value.int .i64 x1, Value.int .i64 x2, Value.slice a n c] 50)).alloc (Obj.cells #[Value.int .i64 4, Value.int .i64 y1, Value.int .i64 y2, Value.slice a' n' c'] 50)) w' ∧ w'.cell? ⟨w.heap.size, 0, none⟩ = some (.int .i64 4) ∧ w'.cell? ⟨w.heap.size, 1, none⟩ = some (.int .i64 x1) ∧ w'.cell? ⟨w.heap.size, 2, none⟩ = some (.int .i64 x2) ∧ w'.cell? ⟨w.heap.size, 3, none⟩ = some (.slice a n c) ∧ w'.cell? ⟨w.heap.size + 1, 0, none⟩ = some (.int .i64 4) ∧ w'.cell? ⟨w.heap.size + 1, 1, none⟩ = some (.int .i64 y1) ∧ w'.cell? ⟨w.heap.size + 1, 2, none⟩ = some (.int .i64 y2) ∧ w'.cell? ⟨w.heap.size + 1, 3, none⟩ = some ((.slice a' n' c'))) (by kernel_rfl) (by kernel_rfl) (⟨Mk.drew1 _, k0, k1, k2, k3, j0, j1, j2, j3⟩) ?_
  change Wk _ _ _ _ 17 0 _
  first | (refine Wk.skip (m := 16) (k := 0) rfl (by rfl) ?_) | (refine Wk.step (m := 16) (k := 0) (v := _) rfl (by rfl) (fun wv hS => by obtain ⟨s0, s1, s2, s3, s4, s5, s6, s7, s8⟩ := hS; go_simp; try with_reducible rfl) ?_)
  try simp only [Act.put, List.getElem_toArray, List.getElem_cons_zero, List.setIfInBounds_toArray, List.set_cons_zero, List.set_cons_succ]
  first | (refine Wk.skip (m := 15) (k := 1) rfl (by rfl) ?_) | (refine Wk.step (m := 15) (k := 1) (v := _) rfl (by rfl) (fun wv hS => by obtain ⟨s0, s1, s2, s3, s4, s5, s6, s7, s8⟩ := hS; go_simp; try with_reducible rfl) ?_)
  try simp only [Act.put, List.getElem_toArray, List.getElem_cons_succ, List.getElem_cons_zero, List.setIfInBounds_toArray, List.set_cons_zero, List.set_cons_succ]
  refine Wk.call (m := 14) (k := 2) (v := .iface 136 (.agg #[])) _ _ rfl (by rfl) (fun wv hS => by obtain ⟨s0, s1, s2, s3, s4, s5, s6, s7, s8⟩ := hS; go_simp; first | done | exact ⟨rfl, rfl⟩ | with_reducible rfl) (fun wv hS => ?_) ?_; · obtain ⟨s0, s1, s2, s3, s4, s5, s6, s7, s8⟩ := hS; refine (kindIs4 wv).mono ?_; rintro e w' ⟨he, mm⟩; exact ⟨he, ⟨s0.trans mm, mm.cellAt s1, mm.cellAt s2, mm.cellAt s3, mm.cellAt s4, mm.cellAt s5, mm.cellAt s6, mm.cellAt s7, mm.cellAt s8⟩⟩
  try simp only [Act.put, List.getElem_toArray, List.getElem_cons_succ, List.getElem_cons_zero, List.setIfInBounds_toArray, List.set_cons_zero, List.set_cons_succ]
  refine Wk.call (m := 13) (k := 3) (v := .int .i64 2) _ _ rfl (by rfl) (fun wv hS => by obtain ⟨s0, s1, s2, s3, s4, s5, s6, s7, s8⟩ := hS; go_simp; first | done | exact ⟨rfl, rfl⟩ | with_reducible rfl) (fun wv hS => ?_) ?_; · obtain ⟨s0, s1, s2, s3, s4, s5, s6, s7, s8⟩ := hS; refine (place4 wv).mono ?_; rintro e w' ⟨he, mm⟩; exact ⟨he, ⟨s0.trans mm, mm.cellAt s1, mm.cellAt s2, mm.cellAt s3, mm.cellAt s4, mm.cellAt s5, mm.cellAt s6, mm.cellAt s7, mm.cellAt s8⟩⟩
  try simp only [Act.put, List.getElem_toArray, List.getElem_cons_succ, List.getElem_cons_zero, List.setIfInBounds_toArray, List.set_cons_zero, List.set_cons_succ]
  first | (refine Wk.skip (m := 12) (k := 4) rfl (by rfl) ?_) | (refine Wk.step (m := 12) (k := 4) (v := _) rfl (by rfl) (fun wv hS => by obtain ⟨s0, s1, s2, s3, s4, s5, s6, s7, s8⟩ := hS; go_simp; try with_reducible rfl) ?_)
  try simp only [Act.put, List.getElem_toArray, List.getElem_cons_succ, List.getElem_cons_zero, List.setIfInBounds_toArray, List.set_cons_zero, List.set_cons_succ]
  first | (refine Wk.skip (m := 11) (k := 5) rfl (by rfl) ?_) | (refine Wk.step (m := 11) (k := 5) (v := _) rfl (by rfl) (fun wv hS => by obtain ⟨s0, s1, s2, s3, s4, s5, s6, s7, s8⟩ := hS; go_simp; try with_reducible rfl) ?_)
  try simp only [Act.put, List.getElem_toArray, List.getElem_cons_succ, List.getElem_cons_zero, List.setIfInBounds_toArray, List.set_cons_zero, List.set_cons_succ]
  refine Wk.call (m := 10) (k := 6) (v := .iface 136 (.agg #[])) _ _ rfl (by rfl) (fun wv hS => by obtain ⟨s0, s1, s2, s3, s4, s5, s6, s7, s8⟩ := hS; go_simp; first | done | exact ⟨rfl, rfl⟩ | with_reducible rfl) (fun wv hS => ?_) ?_; · obtain ⟨s0, s1, s2, s3, s4, s5, s6, s7, s8⟩ := hS; refine (kindIs4 wv).mono ?_; rintro e w' ⟨he, mm⟩; exact ⟨he, ⟨s0.trans mm, mm.cellAt s1, mm.cellAt s2, mm.cellAt s3, mm.cellAt s4, mm.cellAt s5, mm.cellAt s6, mm.cellAt s7, mm.cellAt s8⟩⟩
  try simp only [Act.put, List.getElem_toArray, List.getElem_cons_succ, List.getElem_cons_zero, List.setIfInBounds_toArray, List.set_cons_zero, List.set_cons_succ]
  refine Wk.call (m := 9) (k := 7) (v := .int .i64 2) _ _ rfl (by rfl) (fun wv hS => by obtain ⟨s0, s1, s2, s3, s4, s5, s6, s7, s8⟩ := hS; go_simp; first | done | exact ⟨rfl, rfl⟩ | with_reducible rfl) (fun wv hS => ?_) ?_; · obtain ⟨s0, s1, s2, s3, s4, s5, s6, s7, s8⟩ := hS; refine (place4 wv).mono ?_; rintro e w' ⟨he, mm⟩; exact ⟨he, ⟨s0.trans mm, mm.cellAt s1, mm.cellAt s2, mm.cellAt s3, mm.cellAt s4, mm.cellAt s5, mm.cellAt s6, mm.cellAt s7, mm.cellAt s8⟩⟩
  try simp only [Act.put, List.getElem_toArray, List.getElem_cons_succ, List.getElem_cons_zero, List.setIfInBounds_toArray, List.set_cons_zero, List.set_cons_succ]
  first | (refine Wk.skip (m := 8) (k := 8) rfl (by rfl) ?_) | (refine Wk.step (m := 8) (k := 8) (v := _) rfl (by rfl) (fun wv hS => by obtain ⟨s0, s1, s2, s3, s4, s5, s6, s7, s8⟩ := hS; go_simp; try with_reducible rfl) ?_)
  try simp only [Act.put, List.getElem_toArray, List.getElem_cons_succ, List.getElem_cons_zero, List.setIfInBounds_toArray, List.set_cons_zero, List.set_cons_succ]
  first | (refine Wk.skip (m := 7) (k := 9) rfl (by rfl) ?_) | (refine Wk.step (m := 7) (k := 9) (v := _) rfl (by rfl) (fun wv hS => by obtain ⟨s0, s1, s2, s3, s4, s5, s6, s7, s8⟩ := hS; go_simp; try with_reducible rfl) ?_)
  try simp only [Act.put, List.getElem_toArray, List.getElem_cons_succ, List.getElem_cons_zero, List.setIfInBounds_toArray, List.set_cons_zero, List.set_cons_succ]
  first | (refine Wk.skip (m := 6) (k := 10) rfl (by rfl) ?_) | (refine Wk.step (m := 6) (k := 10) (v := _) rfl (by rfl) (fun wv hS => by obtain ⟨s0, s1, s2, s3, s4, s5, s6, s7, s8⟩ := hS; go_simp; try with_reducible rfl) ?_)
  try simp only [Act.put, List.getElem_toArray, List.getElem_cons_succ, List.getElem_cons_zero, List.setIfInBounds_toArray, List.set_cons_zero, List.set_cons_succ]
  refine Wk.skip (m := 5) (k := 11) rfl (by rfl) ?_
  try simp only [Act.put, List.getElem_toArray, List.getElem_cons_succ, List.getElem_cons_zero, List.setIfInBounds_toArray, List.set_cons_zero, List.set_cons_succ]
  first | (refine Wk.skip (m := 4) (k := 12) rfl (by rfl) ?_) | (refine Wk.step (m := 4) (k := 12) (v := _) rfl (by rfl) (fun wv hS => by obtain ⟨s0, s1, s2, s3, s4, s5, s6, s7, s8⟩ := hS; go_simp; try with_reducible rfl) ?_)
  try simp only [Act.put, List.getElem_toArray, List.getElem_cons_succ, List.getElem_cons_zero, List.setIfInBounds_toArray, List.set_cons_zero, List.set_cons_succ]
  refine Wk.skip (m := 3) (k := 13) rfl (by rfl) ?_
  try simp only [Act.put, List.getElem_toArray, List.getElem_cons_succ, List.getElem_cons_zero, List.setIfInBounds_toArray, List.set_cons_zero, List.set_cons_succ]
  refine Wk.skip (m := 2) (k := 14) rfl (by rfl) ?_
  try simp only [Act.put, List.getElem_toArray, List.getElem_cons_succ, List.getElem_cons_zero, List.setIfInBounds_toArray, List.set_cons_zero, List.set_cons_succ]
  first | (refine Wk.skip (m := 1) (k := 15) rfl (by rfl) ?_) | (refine Wk.step (m := 1) (k := 15) (v := _) rfl (by rfl) (fun wv hS => by obtain ⟨s0, s1, s2, s3, s4, s5, s6, s7, s8⟩ := hS; go_simp; try with_reducible rfl) ?_)
  try simp only [Act.put, List.getElem_toArray, List.getElem_cons_succ, List.getElem_cons_zero, List.setIfInBounds_toArray, List.set_cons_zero, List.set_cons_succ]
  first | (refine Wk.skip (m := 0) (k := 16) rfl (by rfl) ?_) | (refine Wk.step (m := 0) (k := 16) (v := _) rfl (by rfl) (fun wv hS => by obtain ⟨s0, s1, s2, s3, s4, s5, s6, s7, s8⟩ := hS; go_simp; try with_reducible rfl) ?_)
  try simp only [Act.put, List.getElem_toArray, List.getElem_cons_succ, List.getElem_cons_zero, List.setIfInBounds_toArray, List.set_cons_zero, List.set_cons_succ]
  refine Wk.done fun wE hE => ?_
  clear k0 k1 k2 k3 j0 j1 j2 j3
  obtain ⟨mE, k0, k1, k2, k3, j0, j1, j2, j3⟩ := hE
  go_wp2_with fail
  go_ret
  exact ⟨rfl, M0.trans mE⟩

end Go.Proofs.YtifhhfndoifbhaaGreat
namespace Go.Proofs.YtifhhfndoifbhaaGreat
open Go.ChangeShapes Go.WideShapes Go.ChangeAt Go.RowKit
set_option linter.unusedVariables false
theorem in14 {k : Int} (h : inB k 1 4 = true) : k = 1 ∨ k = 2 ∨ k = 3 ∨ k = 4 := by
  have := of_decide_eq_true h
  omega
theorem implMay (x0 y0 : Int) (x1 x2 : Int) (a : Option Addr) (n c B : Nat) (zs : List THop) (y1 y2 : Int) (a' : Option Addr) (n' c' B' : Nat) (zs' : List THop) (w : World) (h : HasHop w B a n zs) (hB : B ≤ w.heap.size) (hn : n ≤ 1048576) (h' : HasHop w B' a' n' zs') (hB' : B' ≤ w.heap.size) (hn' : n' ≤ 1048576) (hx : inB x0 1 4 = true) (hy : inB y0 1 4 = true) :
    Calls Tryz.prog 61 #[.agg #[.int .i64 x0, .int .i64 x1, .int .i64 x2, .slice a n c], .agg #[.int .i64 y0, .int .i64 y1, .int .i64 y2, .slice a' n' c']] w fun e w' => e = .returned (.bool (folP ⟨x0, x1, x2, zs⟩ ⟨y0, y1, y2, zs'⟩)) ∧ Mk0 w w' := by
  have e1 := h.1
  have e2 := h'.1
  rcases in14 hx with rfl | rfl | rfl | rfl <;> rcases in14 hy with rfl | rfl | rfl | rfl
  · exact (implMay11 x1 x2 a n c B zs y1 y2 a' n' c' B' zs' w h hB hn h' hB' hn').mono fun e w' ⟨p, q⟩ => ⟨p.trans (retB (by unfold folP; simp [rkP])), q⟩
  · exact (implMay12 x1 x2 a n c B zs y1 y2 a' n' c' B' zs' w h hB hn h' hB' hn').mono fun e w' ⟨p, q⟩ => ⟨p.trans (retB (by unfold folP; simp [rkP, e1, e2])), q⟩
  · exact (implMay13 x1 x2 a n c B zs y1 y2 a' n' c' B' zs' w h hB hn h' hB' hn').mono fun e w' ⟨p, q⟩ => ⟨p.trans (retB (by unfold folP; simp [rkP, e1, e2])), q⟩
  · exact (implMay14 x1 x2 a n c B zs y1 y2 a' n' c' B' zs' w h hB hn h' hB' hn').mono fun e w' ⟨p, q⟩ => ⟨p.trans (retB (by unfold folP; simp [rkP, e1, e2])), q⟩
  · exact (implMay21 x1 x2 a n c B zs y1 y2 a' n' c' B' zs' w h hB hn h' hB' hn').mono fun e w' ⟨p, q⟩ => ⟨p.trans (retB (by unfold folP; simp [rkP])), q⟩
  · exact (implMay22 x1 x2 a n c B zs y1 y2 a' n' c' B' zs' w h hB hn h' hB' hn').mono fun e w' ⟨p, q⟩ => ⟨p.trans (retB (by unfold folP; simp [rkP])), q⟩
  · exact (implMay23 x1 x2 a n c B zs y1 y2 a' n' c' B' zs' w h hB hn h' hB' hn').mono fun e w' ⟨p, q⟩ => ⟨p.trans (retB (by unfold folP; simp [rkP])), q⟩
  · exact (implMay24 x1 x2 a n c B zs y1 y2 a' n' c' B' zs' w h hB hn h' hB' hn').mono fun e w' ⟨p, q⟩ => ⟨p.trans (retB (by unfold folP; simp [rkP, e1, e2])), q⟩
  · exact (implMay31 x1 x2 a n c B zs y1 y2 a' n' c' B' zs' w h hB hn h' hB' hn').mono fun e w' ⟨p, q⟩ => ⟨p.trans (retB (by unfold folP; simp [rkP])), q⟩
  · exact (implMay32 x1 x2 a n c B zs y1 y2 a' n' c' B' zs' w h hB hn h' hB' hn').mono fun e w' ⟨p, q⟩ => ⟨p.trans (retB (by unfold folP; simp [rkP])), q⟩
  · exact (implMay33 x1 x2 a n c B zs y1 y2 a' n' c' B' zs' w h hB hn h' hB' hn').mono fun e w' ⟨p, q⟩ => ⟨p.trans (retB (by unfold folP; simp [rkP])), q⟩
  · exact (implMay34 x1 x2 a n c B zs y1 y2 a' n' c' B' zs' w h hB hn h' hB' hn').mono fun e w' ⟨p, q⟩ => ⟨p.trans (retB (by unfold folP; simp [rkP, e1, e2])), q⟩
  · exact (implMay41 x1 x2 a n c B zs y1 y2 a' n' c' B' zs' w h hB hn h' hB' hn').mono fun e w' ⟨p, q⟩ => ⟨p.trans (retB (by unfold folP; simp [rkP])), q⟩
  · exact (implMay42 x1 x2 a n c B zs y1 y2 a' n' c' B' zs' w h hB hn h' hB' hn').mono fun e w' ⟨p, q⟩ => ⟨p.trans (retB (by unfold folP; simp [rkP])), q⟩
  · exact (implMay43 x1 x2 a n c B zs y1 y2 a' n' c' B' zs' w h hB hn h' hB' hn').mono fun e w' ⟨p, q⟩ => ⟨p.trans (retB (by unfold folP; simp [rkP])), q⟩
  · exact (implMay44 x1 x2 a n c B zs y1 y2 a' n' c' B' zs' w h hB hn h' hB' hn').mono fun e w' ⟨p, q⟩ => ⟨p.trans (retB (by unfold folP; simp [rkP])), q⟩
end Go.Proofs.YtifhhfndoifbhaaGreat
