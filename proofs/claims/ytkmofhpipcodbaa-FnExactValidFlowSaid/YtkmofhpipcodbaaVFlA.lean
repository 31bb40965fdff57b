
/- ValidFlow: the model, tests 1 to 5. -/
import Derived.Test.YtkmofhpipcodbaaVFlD
import Derived.Laws.EntriesVeiled
namespace Go.Proofs.Ytkmofhpipcodbaa
open Go.ChangeShapes Go.WideShapes Go.ChangeAt Go.RowKit
set_option linter.unusedVariables false
set_option maxRecDepth 100000 in
set_option maxHeartbeats 4000000 in
theorem specMx (y : Int) (w : World) : Calls Try.prog 85 #[.int .i64 0, .int .i64 y] w fun e w' => e = .returned (.int .i64 (if 0 < y then y else 0)) ∧ w = w' := by
  by_cases h : 0 < y
  · have HR := Lib.hid (show (if 0 < y then y else (0 : Int)) = y from if_pos h)
    go_enter Try.func85, Try.ntmps85
    go_wp2_with fail
    go_ret
    exact ⟨rfl, rfl⟩
  · have HR := Lib.hid (show (if 0 < y then y else (0 : Int)) = 0 from if_neg h)
    replace h : y ≤ 0 := by omega
    go_enter Try.func85, Try.ntmps85
    go_wp2_with fail
    go_ret
    exact ⟨rfl, rfl⟩

set_option maxRecDepth 100000 in
set_option maxHeartbeats 40000000 in
theorem specVFlA (x0 x1 x2 x3 x6 x7 : Int) (a4 : Option Addr) (n4 c4 : Nat) (z4 : List TMessage) (a5 : Option Addr) (n5 c5 : Nat) (a8 : Option Addr) (n8 c8 B : Nat) (z8 : List TRevocation) (w : World) (h4 : HasMessage w B a4 n4 z4) (h8 : HasRevocation w B a8 n8 z8) (hB : B ≤ w.heap.size) (hn4 : szMessage z4 n4 ≤ 1048576) (hn5 : n5 ≤ 1048576) (hn8 : n8 ≤ 1048576) (hN : (inB x0 0 7 && (inB x1 0 7 && (!(x0 == x1) && (inB x2 0 100000 && decide ((n4 : Int) ≤ 20))))) = false) :
    Calls Try.prog 35 #[.agg #[.int .i64 x0, .int .i64 x1, .int .i64 x2, .int .i64 x3, .slice a4 n4 c4, .slice a5 n5 c5, .int .i64 x6, .int .i64 x7, .slice a8 n8 c8]] w fun e w' => e = .returned (.bool (vFlB x0 x1 x2 x3 x6 x7 n4 z4 n5 n8 z8)) ∧ Mk0 w w' := by
  have M0 := Mk.alloc w (Obj.cells #[Value.int .i64 x0, Value.int .i64 x1, Value.int .i64 x2, Value.int .i64 x3, Value.slice a4 n4 c4, Value.slice a5 n5 c5, Value.int .i64 x6, Value.int .i64 x7, Value.slice a8 n8 c8] 83)
  have hn40 : n4 ≤ 1048576 := Nat.le_trans (szMessage_n z4 n4) hn4
  have i4 : (n4 : Int) ≤ 1048576 := by omega
  have i5 : (n5 : Int) ≤ 1048576 := by omega
  have i8 : (n8 : Int) ≤ 1048576 := by omega
  have u0 : (w.alloc (Obj.cells #[Value.int .i64 x0, Value.int .i64 x1, Value.int .i64 x2, Value.int .i64 x3, Value.slice a4 n4 c4, Value.slice a5 n5 c5, Value.int .i64 x6, Value.int .i64 x7, Value.slice a8 n8 c8] 83)).cell? ⟨w.heap.size, 0, none⟩ = some (.int .i64 x0) := by simp [go_sem]
  have u1 : (w.alloc (Obj.cells #[Value.int .i64 x0, Value.int .i64 x1, Value.int .i64 x2, Value.int .i64 x3, Value.slice a4 n4 c4, Value.slice a5 n5 c5, Value.int .i64 x6, Value.int .i64 x7, Value.slice a8 n8 c8] 83)).cell? ⟨w.heap.size, 1, none⟩ = some (.int .i64 x1) := by simp [go_sem]
  have u2 : (w.alloc (Obj.cells #[Value.int .i64 x0, Value.int .i64 x1, Value.int .i64 x2, Value.int .i64 x3, Value.slice a4 n4 c4, Value.slice a5 n5 c5, Value.int .i64 x6, Value.int .i64 x7, Value.slice a8 n8 c8] 83)).cell? ⟨w.heap.size, 2, none⟩ = some (.int .i64 x2) := by simp [go_sem]
  have u3 : (w.alloc (Obj.cells #[Value.int .i64 x0, Value.int .i64 x1, Value.int .i64 x2, Value.int .i64 x3, Value.slice a4 n4 c4, Value.slice a5 n5 c5, Value.int .i64 x6, Value.int .i64 x7, Value.slice a8 n8 c8] 83)).cell? ⟨w.heap.size, 3, none⟩ = some (.int .i64 x3) := by simp [go_sem]
  have u4 : (w.alloc (Obj.cells #[Value.int .i64 x0, Value.int .i64 x1, Value.int .i64 x2, Value.int .i64 x3, Value.slice a4 n4 c4, Value.slice a5 n5 c5, Value.int .i64 x6, Value.int .i64 x7, Value.slice a8 n8 c8] 83)).cell? ⟨w.heap.size, 4, none⟩ = some (.slice a4 n4 c4) := by simp [go_sem]
  have u5 : (w.alloc (Obj.cells #[Value.int .i64 x0, Value.int .i64 x1, Value.int .i64 x2, Value.int .i64 x3, Value.slice a4 n4 c4, Value.slice a5 n5 c5, Value.int .i64 x6, Value.int .i64 x7, Value.slice a8 n8 c8] 83)).cell? ⟨w.heap.size, 5, none⟩ = some (.slice a5 n5 c5) := by simp [go_sem]
  have u6 : (w.alloc (Obj.cells #[Value.int .i64 x0, Value.int .i64 x1, Value.int .i64 x2, Value.int .i64 x3, Value.slice a4 n4 c4, Value.slice a5 n5 c5, Value.int .i64 x6, Value.int .i64 x7, Value.slice a8 n8 c8] 83)).cell? ⟨w.heap.size, 6, none⟩ = some (.int .i64 x6) := by simp [go_sem]
  have u7 : (w.alloc (Obj.cells #[Value.int .i64 x0, Value.int .i64 x1, Value.int .i64 x2, Value.int .i64 x3, Value.slice a4 n4 c4, Value.slice a5 n5 c5, Value.int .i64 x6, Value.int .i64 x7, Value.slice a8 n8 c8] 83)).cell? ⟨w.heap.size, 7, none⟩ = some (.int .i64 x7) := by simp [go_sem]
  have u8 : (w.alloc (Obj.cells #[Value.int .i64 x0, Value.int .i64 x1, Value.int .i64 x2, Value.int .i64 x3, Value.slice a4 n4 c4, Value.slice a5 n5 c5, Value.int .i64 x6, Value.int .i64 x7, Value.slice a8 n8 c8] 83)).cell? ⟨w.heap.size, 8, none⟩ = some (.slice a8 n8 c8) := by simp [go_sem]
  have hwr : IntKind.i64.wrap ((n5 : Int) - 1) = (n5 : Int) - 1 := by rw [IntKind.wrap_i64]; omega
  obtain ⟨MX, hMX⟩ : ∃ MX, Hid ((if 0 < (n5 : Int) - 1 then (n5 : Int) - 1 else 0) = MX) := ⟨_, Lib.hid rfl⟩
  cases g1 : inB x0 0 7
  · have K1 := Lib.hid g1
    clear g1
    go_enter Try.func35, Try.ntmps35
    go_wp2_with fail
    dsimp only [List.append]
    refine wp_region_wk (fun w' => Mk0 (w.alloc (Obj.cells #[Value.int .i64 x0, Value.int .i64 x1, Value.int .i64 x2, Value.int .i64 x3, Value.slice a4 n4 c4, Value.slice a5 n5 c5, Value.int .i64 x6, Value.int .i64 x7, Value.slice a8 n8 c8] 83)) w' ∧ w'.cell? ⟨w.heap.size, 0, none⟩ = some (.int .i64 x0) ∧ w'.cell? ⟨w.heap.size, 1, none⟩ = some (.int .i64 x1) ∧ w'.cell? ⟨w.heap.size, 2, none⟩ = some (.int .i64 x2) ∧ w'.cell? ⟨w.heap.size, 3, none⟩ = some (.int .i64 x3) ∧ w'.cell? ⟨w.heap.size, 4, none⟩ = some (.slice a4 n4 c4) ∧ w'.cell? ⟨w.heap.size, 5, none⟩ = some (.slice a5 n5 c5) ∧ w'.cell? ⟨w.heap.size, 6, none⟩ = some (.int .i64 x6) ∧ w'.cell? ⟨w.heap.size, 7, none⟩ = some (.int .i64 x7) ∧ w'.cell? ⟨w.heap.size, 8, none⟩ = some (.slice a8 n8 c8)) (by kernel_rfl) (by kernel_rfl) (⟨Mk.drew1 _, u0, u1, u2, u3, u4, u5, u6, u7, u8⟩) ?_
    change Wk _ _ _ _ 67 0 _
    first | (refine Wk.skip (m := 66) (k := 0) rfl (by rfl) ?_) | (refine Wk.step (m := 66) (k := 0) (v := _) rfl (by rfl) (fun wv hS => by obtain ⟨s0, s1, s2, s3, s4, s5, s6, s7, s8, s9⟩ := hS; go_simp; try with_reducible rfl) ?_)
    try simp only [Act.put, List.getElem_toArray, List.getElem_cons_zero, List.setIfInBounds_toArray, List.set_cons_zero, List.set_cons_succ]
    first | (refine Wk.skip (m := 65) (k := 1) rfl (by rfl) ?_) | (refine Wk.step (m := 65) (k := 1) (v := _) rfl (by rfl) (fun wv hS => by obtain ⟨s0, s1, s2, s3, s4, s5, s6, s7, s8, s9⟩ := hS; go_simp; try with_reducible rfl) ?_)
    try simp only [Act.put, List.getElem_toArray, List.getElem_cons_succ, List.getElem_cons_zero, List.setIfInBounds_toArray, List.set_cons_zero, List.set_cons_succ]
    refine Wk.call (m := 64) (k := 2) (v := .bool false) _ _ rfl (by rfl) (fun wv hS => by obtain ⟨s0, s1, s2, s3, s4, s5, s6, s7, s8, s9⟩ := hS; go_simp; first | done | exact ⟨rfl, rfl⟩ | with_reducible rfl) (fun wv hS => ?_) ?_; · obtain ⟨s0, s1, s2, s3, s4, s5, s6, s7, s8, s9⟩ := hS; refine (specIn _ _ _ wv).mono ?_; rintro e w' ⟨he, rfl⟩; exact ⟨by rw [he, K1.out], s0, s1, s2, s3, s4, s5, s6, s7, s8, s9⟩
    try simp only [Act.put, List.getElem_toArray, List.getElem_cons_succ, List.getElem_cons_zero, List.setIfInBounds_toArray, List.set_cons_zero, List.set_cons_succ]
    first | (refine Wk.skip (m := 63) (k := 3) rfl (by rfl) ?_) | (refine Wk.step (m := 63) (k := 3) (v := _) rfl (by rfl) (fun wv hS => by obtain ⟨s0, s1, s2, s3, s4, s5, s6, s7, s8, s9⟩ := hS; go_simp; try with_reducible rfl) ?_)
    try simp only [Act.put, List.getElem_toArray, List.getElem_cons_succ, List.getElem_cons_zero, List.setIfInBounds_toArray, List.set_cons_zero, List.set_cons_succ]
    first | (refine Wk.skip (m := 62) (k := 4) rfl (by rfl) ?_) | (refine Wk.step (m := 62) (k := 4) (v := _) rfl (by rfl) (fun wv hS => by obtain ⟨s0, s1, s2, s3, s4, s5, s6, s7, s8, s9⟩ := hS; go_simp; try with_reducible rfl) ?_)
    try simp only [Act.put, List.getElem_toArray, List.getElem_cons_succ, List.getElem_cons_zero, List.setIfInBounds_toArray, List.set_cons_zero, List.set_cons_succ]
    first | (refine Wk.skip (m := 61) (k := 5) rfl (by rfl) ?_) | (refine Wk.step (m := 61) (k := 5) (v := _) rfl (by rfl) (fun wv hS => by obtain ⟨s0, s1, s2, s3, s4, s5, s6, s7, s8, s9⟩ := hS; go_simp; try with_reducible rfl) ?_)
    try simp only [Act.put, List.getElem_toArray, List.getElem_cons_succ, List.getElem_cons_zero, List.setIfInBounds_toArray, List.set_cons_zero, List.set_cons_succ]
    first | (refine Wk.skip (m := 60) (k := 6) rfl (by rfl) ?_) | (refine Wk.step (m := 60) (k := 6) (v := _) rfl (by rfl) (fun wv hS => by obtain ⟨s0, s1, s2, s3, s4, s5, s6, s7, s8, s9⟩ := hS; go_simp; try with_reducible rfl) ?_)
    try simp only [Act.put, List.getElem_toArray, List.getElem_cons_succ, List.getElem_cons_zero, List.setIfInBounds_toArray, List.set_cons_zero, List.set_cons_succ]
    first | (refine Wk.skip (m := 59) (k := 7) rfl (by rfl) ?_) | (refine Wk.step (m := 59) (k := 7) (v := _) rfl (by rfl) (fun wv hS => by obtain ⟨s0, s1, s2, s3, s4, s5, s6, s7, s8, s9⟩ := hS; go_simp; try with_reducible rfl) ?_)
    try simp only [Act.put, List.getElem_toArray, List.getElem_cons_succ, List.getElem_cons_zero, List.setIfInBounds_toArray, List.set_cons_zero, List.set_cons_succ]
    first | (refine Wk.skip (m := 58) (k := 8) rfl (by rfl) ?_) | (refine Wk.step (m := 58) (k := 8) (v := _) rfl (by rfl) (fun wv hS => by obtain ⟨s0, s1, s2, s3, s4, s5, s6, s7, s8, s9⟩ := hS; go_simp; try with_reducible rfl) ?_)
    try simp only [Act.put, List.getElem_toArray, List.getElem_cons_succ, List.getElem_cons_zero, List.setIfInBounds_toArray, List.set_cons_zero, List.set_cons_succ]
    first | (refine Wk.skip (m := 57) (k := 9) rfl (by rfl) ?_) | (refine Wk.step (m := 57) (k := 9) (v := _) rfl (by rfl) (fun wv hS => by obtain ⟨s0, s1, s2, s3, s4, s5, s6, s7, s8, s9⟩ := hS; go_simp; try with_reducible rfl) ?_)
    try simp only [Act.put, List.getElem_toArray, List.getElem_cons_succ, List.getElem_cons_zero, List.setIfInBounds_toArray, List.set_cons_zero, List.set_cons_succ]
    first | (refine Wk.skip (m := 56) (k := 10) rfl (by rfl) ?_) | (refine Wk.step (m := 56) (k := 10) (v := _) rfl (by rfl) (fun wv hS => by obtain ⟨s0, s1, s2, s3, s4, s5, s6, s7, s8, s9⟩ := hS; go_simp; try with_reducible rfl) ?_)
    try simp only [Act.put, List.getElem_toArray, List.getElem_cons_succ, List.getElem_cons_zero, List.setIfInBounds_toArray, List.set_cons_zero, List.set_cons_succ]
    first | (refine Wk.skip (m := 55) (k := 11) rfl (by rfl) ?_) | (refine Wk.step (m := 55) (k := 11) (v := _) rfl (by rfl) (fun wv hS => by obtain ⟨s0, s1, s2, s3, s4, s5, s6, s7, s8, s9⟩ := hS; go_simp; try with_reducible rfl) ?_)
    try simp only [Act.put, List.getElem_toArray, List.getElem_cons_succ, List.getElem_cons_zero, List.setIfInBounds_toArray, List.set_cons_zero, List.set_cons_succ]
    first | (refine Wk.skip (m := 54) (k := 12) rfl (by rfl) ?_) | (refine Wk.step (m := 54) (k := 12) (v := _) rfl (by rfl) (fun wv hS => by obtain ⟨s0, s1, s2, s3, s4, s5, s6, s7, s8, s9⟩ := hS; go_simp; try with_reducible rfl) ?_)
    try simp only [Act.put, List.getElem_toArray, List.getElem_cons_succ, List.getElem_cons_zero, List.setIfInBounds_toArray, List.set_cons_zero, List.set_cons_succ]
    first | (refine Wk.skip (m := 53) (k := 13) rfl (by rfl) ?_) | (refine Wk.step (m := 53) (k := 13) (v := _) rfl (by rfl) (fun wv hS => by obtain ⟨s0, s1, s2, s3, s4, s5, s6, s7, s8, s9⟩ := hS; go_simp; try with_reducible rfl) ?_)
    try simp only [Act.put, List.getElem_toArray, List.getElem_cons_succ, List.getElem_cons_zero, List.setIfInBounds_toArray, List.set_cons_zero, List.set_cons_succ]
    first | (refine Wk.skip (m := 52) (k := 14) rfl (by rfl) ?_) | (refine Wk.step (m := 52) (k := 14) (v := _) rfl (by rfl) (fun wv hS => by obtain ⟨s0, s1, s2, s3, s4, s5, s6, s7, s8, s9⟩ := hS; go_simp; try with_reducible rfl) ?_)
    try simp only [Act.put, List.getElem_toArray, List.getElem_cons_succ, List.getElem_cons_zero, List.setIfInBounds_toArray, List.set_cons_zero, List.set_cons_succ]
    first | (refine Wk.skip (m := 51) (k := 15) rfl (by rfl) ?_) | (refine Wk.step (m := 51) (k := 15) (v := _) rfl (by rfl) (fun wv hS => by obtain ⟨s0, s1, s2, s3, s4, s5, s6, s7, s8, s9⟩ := hS; go_simp; try with_reducible rfl) ?_)
    try simp only [Act.put, List.getElem_toArray, List.getElem_cons_succ, List.getElem_cons_zero, List.setIfInBounds_toArray, List.set_cons_zero, List.set_cons_succ]
    first | (refine Wk.skip (m := 50) (k := 16) rfl (by rfl) ?_) | (refine Wk.step (m := 50) (k := 16) (v := _) rfl (by rfl) (fun wv hS => by obtain ⟨s0, s1, s2, s3, s4, s5, s6, s7, s8, s9⟩ := hS; go_simp; try with_reducible rfl) ?_)
    try simp only [Act.put, List.getElem_toArray, List.getElem_cons_succ, List.getElem_cons_zero, List.setIfInBounds_toArray, List.set_cons_zero, List.set_cons_succ]
    first | (refine Wk.skip (m := 49) (k := 17) rfl (by rfl) ?_) | (refine Wk.step (m := 49) (k := 17) (v := _) rfl (by rfl) (fun wv hS => by obtain ⟨s0, s1, s2, s3, s4, s5, s6, s7, s8, s9⟩ := hS; go_simp; try with_reducible rfl) ?_)
    try simp only [Act.put, List.getElem_toArray, List.getElem_cons_succ, List.getElem_cons_zero, List.setIfInBounds_toArray, List.set_cons_zero, List.set_cons_succ]
    first | (refine Wk.skip (m := 48) (k := 18) rfl (by rfl) ?_) | (refine Wk.step (m := 48) (k := 18) (v := _) rfl (by rfl) (fun wv hS => by obtain ⟨s0, s1, s2, s3, s4, s5, s6, s7, s8, s9⟩ := hS; go_simp; try with_reducible rfl) ?_)
    try simp only [Act.put, List.getElem_toArray, List.getElem_cons_succ, List.getElem_cons_zero, List.setIfInBounds_toArray, List.set_cons_zero, List.set_cons_succ]
    first | (refine Wk.skip (m := 47) (k := 19) rfl (by rfl) ?_) | (refine Wk.step (m := 47) (k := 19) (v := _) rfl (by rfl) (fun wv hS => by obtain ⟨s0, s1, s2, s3, s4, s5, s6, s7, s8, s9⟩ := hS; go_simp; try with_reducible rfl) ?_)
    try simp only [Act.put, List.getElem_toArray, List.getElem_cons_succ, List.getElem_cons_zero, List.setIfInBounds_toArray, List.set_cons_zero, List.set_cons_succ]
    first | (refine Wk.skip (m := 46) (k := 20) rfl (by rfl) ?_) | (refine Wk.step (m := 46) (k := 20) (v := _) rfl (by rfl) (fun wv hS => by obtain ⟨s0, s1, s2, s3, s4, s5, s6, s7, s8, s9⟩ := hS; go_simp; try with_reducible rfl) ?_)
    try simp only [Act.put, List.getElem_toArray, List.getElem_cons_succ, List.getElem_cons_zero, List.setIfInBounds_toArray, List.set_cons_zero, List.set_cons_succ]
    first | (refine Wk.skip (m := 45) (k := 21) rfl (by rfl) ?_) | (refine Wk.step (m := 45) (k := 21) (v := _) rfl (by rfl) (fun wv hS => by obtain ⟨s0, s1, s2, s3, s4, s5, s6, s7, s8, s9⟩ := hS; go_simp; try with_reducible rfl) ?_)
    try simp only [Act.put, List.getElem_toArray, List.getElem_cons_succ, List.getElem_cons_zero, List.setIfInBounds_toArray, List.set_cons_zero, List.set_cons_succ]
    first | (refine Wk.skip (m := 44) (k := 22) rfl (by rfl) ?_) | (refine Wk.step (m := 44) (k := 22) (v := _) rfl (by rfl) (fun wv hS => by obtain ⟨s0, s1, s2, s3, s4, s5, s6, s7, s8, s9⟩ := hS; go_simp; try with_reducible rfl) ?_)
    try simp only [Act.put, List.getElem_toArray, List.getElem_cons_succ, List.getElem_cons_zero, List.setIfInBounds_toArray, List.set_cons_zero, List.set_cons_succ]
    first | (refine Wk.skip (m := 43) (k := 23) rfl (by rfl) ?_) | (refine Wk.step (m := 43) (k := 23) (v := _) rfl (by rfl) (fun wv hS => by obtain ⟨s0, s1, s2, s3, s4, s5, s6, s7, s8, s9⟩ := hS; go_simp; try with_reducible rfl) ?_)
    try simp only [Act.put, List.getElem_toArray, List.getElem_cons_succ, List.getElem_cons_zero, List.setIfInBounds_toArray, List.set_cons_zero, List.set_cons_succ]
    first | (refine Wk.skip (m := 42) (k := 24) rfl (by rfl) ?_) | (refine Wk.step (m := 42) (k := 24) (v := _) rfl (by rfl) (fun wv hS => by obtain ⟨s0, s1, s2, s3, s4, s5, s6, s7, s8, s9⟩ := hS; go_simp; try with_reducible rfl) ?_)
    try simp only [Act.put, List.getElem_toArray, List.getElem_cons_succ, List.getElem_cons_zero, List.setIfInBounds_toArray, List.set_cons_zero, List.set_cons_succ]
    first | (refine Wk.skip (m := 41) (k := 25) rfl (by rfl) ?_) | (refine Wk.step (m := 41) (k := 25) (v := _) rfl (by rfl) (fun wv hS => by obtain ⟨s0, s1, s2, s3, s4, s5, s6, s7, s8, s9⟩ := hS; go_simp; try with_reducible rfl) ?_)
    try simp only [Act.put, List.getElem_toArray, List.getElem_cons_succ, List.getElem_cons_zero, List.setIfInBounds_toArray, List.set_cons_zero, List.set_cons_succ]
    first | (refine Wk.skip (m := 40) (k := 26) rfl (by rfl) ?_) | (refine Wk.step (m := 40) (k := 26) (v := _) rfl (by rfl) (fun wv hS => by obtain ⟨s0, s1, s2, s3, s4, s5, s6, s7, s8, s9⟩ := hS; go_simp; try with_reducible rfl) ?_)
    try simp only [Act.put, List.getElem_toArray, List.getElem_cons_succ, List.getElem_cons_zero, List.setIfInBounds_toArray, List.set_cons_zero, List.set_cons_succ]
    first | (refine Wk.skip (m := 39) (k := 27) rfl (by rfl) ?_) | (refine Wk.step (m := 39) (k := 27) (v := _) rfl (by rfl) (fun wv hS => by obtain ⟨s0, s1, s2, s3, s4, s5, s6, s7, s8, s9⟩ := hS; go_simp; try with_reducible rfl) ?_)
    try simp only [Act.put, List.getElem_toArray, List.getElem_cons_succ, List.getElem_cons_zero, List.setIfInBounds_toArray, List.set_cons_zero, List.set_cons_succ]
    first | (refine Wk.skip (m := 38) (k := 28) rfl (by rfl) ?_) | (refine Wk.step (m := 38) (k := 28) (v := _) rfl (by rfl) (fun wv hS => by obtain ⟨s0, s1, s2, s3, s4, s5, s6, s7, s8, s9⟩ := hS; go_simp; try with_reducible rfl) ?_)
    try simp only [Act.put, List.getElem_toArray, List.getElem_cons_succ, List.getElem_cons_zero, List.setIfInBounds_toArray, List.set_cons_zero, List.set_cons_succ]
    first | (refine Wk.skip (m := 37) (k := 29) rfl (by rfl) ?_) | (refine Wk.step (m := 37) (k := 29) (v := _) rfl (by rfl) (fun wv hS => by obtain ⟨s0, s1, s2, s3, s4, s5, s6, s7, s8, s9⟩ := hS; go_simp; try with_reducible rfl) ?_)
    try simp only [Act.put, List.getElem_toArray, List.getElem_cons_succ, List.getElem_cons_zero, List.setIfInBounds_toArray, List.set_cons_zero, List.set_cons_succ]
    first | (refine Wk.skip (m := 36) (k := 30) rfl (by rfl) ?_) | (refine Wk.step (m := 36) (k := 30) (v := _) rfl (by rfl) (fun wv hS => by obtain ⟨s0, s1, s2, s3, s4, s5, s6, s7, s8, s9⟩ := hS; go_simp; try with_reducible rfl) ?_)
    try simp only [Act.put, List.getElem_toArray, List.getElem_cons_succ, List.getElem_cons_zero, List.setIfInBounds_toArray, List.set_cons_zero, List.set_cons_succ]
    first | (refine Wk.skip (m := 35) (k := 31) rfl (by rfl) ?_) | (refine Wk.step (m := 35) (k := 31) (v := _) rfl (by rfl) (fun wv hS => by obtain ⟨s0, s1, s2, s3, s4, s5, s6, s7, s8, s9⟩ := hS; go_simp; try with_reducible rfl) ?_)
    try simp only [Act.put, List.getElem_toArray, List.getElem_cons_succ, List.getElem_cons_zero, List.setIfInBounds_toArray, List.set_cons_zero, List.set_cons_succ]
    first | (refine Wk.skip (m := 34) (k := 32) rfl (by rfl) ?_) | (refine Wk.step (m := 34) (k := 32) (v := _) rfl (by rfl) (fun wv hS => by obtain ⟨s0, s1, s2, s3, s4, s5, s6, s7, s8, s9⟩ := hS; go_simp; try with_reducible rfl) ?_)
    try simp only [Act.put, List.getElem_toArray, List.getElem_cons_succ, List.getElem_cons_zero, List.setIfInBounds_toArray, List.set_cons_zero, List.set_cons_succ]
    first | (refine Wk.skip (m := 33) (k := 33) rfl (by rfl) ?_) | (refine Wk.step (m := 33) (k := 33) (v := _) rfl (by rfl) (fun wv hS => by obtain ⟨s0, s1, s2, s3, s4, s5, s6, s7, s8, s9⟩ := hS; go_simp; try with_reducible rfl) ?_)
    try simp only [Act.put, List.getElem_toArray, List.getElem_cons_succ, List.getElem_cons_zero, List.setIfInBounds_toArray, List.set_cons_zero, List.set_cons_succ]
    first | (refine Wk.skip (m := 32) (k := 34) rfl (by rfl) ?_) | (refine Wk.step (m := 32) (k := 34) (v := _) rfl (by rfl) (fun wv hS => by obtain ⟨s0, s1, s2, s3, s4, s5, s6, s7, s8, s9⟩ := hS; go_simp; try with_reducible rfl) ?_)
    try simp only [Act.put, List.getElem_toArray, List.getElem_cons_succ, List.getElem_cons_zero, List.setIfInBounds_toArray, List.set_cons_zero, List.set_cons_succ]
    first | (refine Wk.skip (m := 31) (k := 35) rfl (by rfl) ?_) | (refine Wk.step (m := 31) (k := 35) (v := _) rfl (by rfl) (fun wv hS => by obtain ⟨s0, s1, s2, s3, s4, s5, s6, s7, s8, s9⟩ := hS; go_simp; try with_reducible rfl) ?_)
    try simp only [Act.put, List.getElem_toArray, List.getElem_cons_succ, List.getElem_cons_zero, List.setIfInBounds_toArray, List.set_cons_zero, List.set_cons_succ]
    first | (refine Wk.skip (m := 30) (k := 36) rfl (by rfl) ?_) | (refine Wk.step (m := 30) (k := 36) (v := _) rfl (by rfl) (fun wv hS => by obtain ⟨s0, s1, s2, s3, s4, s5, s6, s7, s8, s9⟩ := hS; go_simp; try with_reducible rfl) ?_)
    try simp only [Act.put, List.getElem_toArray, List.getElem_cons_succ, List.getElem_cons_zero, List.setIfInBounds_toArray, List.set_cons_zero, List.set_cons_succ]
    first | (refine Wk.skip (m := 29) (k := 37) rfl (by rfl) ?_) | (refine Wk.step (m := 29) (k := 37) (v := _) rfl (by rfl) (fun wv hS => by obtain ⟨s0, s1, s2, s3, s4, s5, s6, s7, s8, s9⟩ := hS; go_simp; try with_reducible rfl) ?_)
    try simp only [Act.put, List.getElem_toArray, List.getElem_cons_succ, List.getElem_cons_zero, List.setIfInBounds_toArray, List.set_cons_zero, List.set_cons_succ]
    first | (refine Wk.skip (m := 28) (k := 38) rfl (by rfl) ?_) | (refine Wk.step (m := 28) (k := 38) (v := _) rfl (by rfl) (fun wv hS => by obtain ⟨s0, s1, s2, s3, s4, s5, s6, s7, s8, s9⟩ := hS; go_simp; try with_reducible rfl) ?_)
    try simp only [Act.put, List.getElem_toArray, List.getElem_cons_succ, List.getElem_cons_zero, List.setIfInBounds_toArray, List.set_cons_zero, List.set_cons_succ]
    first | (refine Wk.skip (m := 27) (k := 39) rfl (by rfl) ?_) | (refine Wk.step (m := 27) (k := 39) (v := _) rfl (by rfl) (fun wv hS => by obtain ⟨s0, s1, s2, s3, s4, s5, s6, s7, s8, s9⟩ := hS; go_simp; try with_reducible rfl) ?_)
    try simp only [Act.put, List.getElem_toArray, List.getElem_cons_succ, List.getElem_cons_zero, List.setIfInBounds_toArray, List.set_cons_zero, List.set_cons_succ]
    first | (refine Wk.skip (m := 26) (k := 40) rfl (by rfl) ?_) | (refine Wk.step (m := 26) (k := 40) (v := _) rfl (by rfl) (fun wv hS => by obtain ⟨s0, s1, s2, s3, s4, s5, s6, s7, s8, s9⟩ := hS; go_simp; try with_reducible rfl) ?_)
    try simp only [Act.put, List.getElem_toArray, List.getElem_cons_succ, List.getElem_cons_zero, List.setIfInBounds_toArray, List.set_cons_zero, List.set_cons_succ]
    first | (refine Wk.skip (m := 25) (k := 41) rfl (by rfl) ?_) | (refine Wk.step (m := 25) (k := 41) (v := _) rfl (by rfl) (fun wv hS => by obtain ⟨s0, s1, s2, s3, s4, s5, s6, s7, s8, s9⟩ := hS; go_simp; try with_reducible rfl) ?_)
    try simp only [Act.put, List.getElem_toArray, List.getElem_cons_succ, List.getElem_cons_zero, List.setIfInBounds_toArray, List.set_cons_zero, List.set_cons_succ]
    first | (refine Wk.skip (m := 24) (k := 42) rfl (by rfl) ?_) | (refine Wk.step (m := 24) (k := 42) (v := _) rfl (by rfl) (fun wv hS => by obtain ⟨s0, s1, s2, s3, s4, s5, s6, s7, s8, s9⟩ := hS; go_simp; try with_reducible rfl) ?_)
    try simp only [Act.put, List.getElem_toArray, List.getElem_cons_succ, List.getElem_cons_zero, List.setIfInBounds_toArray, List.set_cons_zero, List.set_cons_succ]
    first | (refine Wk.skip (m := 23) (k := 43) rfl (by rfl) ?_) | (refine Wk.step (m := 23) (k := 43) (v := _) rfl (by rfl) (fun wv hS => by obtain ⟨s0, s1, s2, s3, s4, s5, s6, s7, s8, s9⟩ := hS; go_simp; try with_reducible rfl) ?_)
    try simp only [Act.put, List.getElem_toArray, List.getElem_cons_succ, List.getElem_cons_zero, List.setIfInBounds_toArray, List.set_cons_zero, List.set_cons_succ]
    first | (refine Wk.skip (m := 22) (k := 44) rfl (by rfl) ?_) | (refine Wk.step (m := 22) (k := 44) (v := _) rfl (by rfl) (fun wv hS => by obtain ⟨s0, s1, s2, s3, s4, s5, s6, s7, s8, s9⟩ := hS; go_simp; try with_reducible rfl) ?_)
    try simp only [Act.put, List.getElem_toArray, List.getElem_cons_succ, List.getElem_cons_zero, List.setIfInBounds_toArray, List.set_cons_zero, List.set_cons_succ]
    first | (refine Wk.skip (m := 21) (k := 45) rfl (by rfl) ?_) | (refine Wk.step (m := 21) (k := 45) (v := _) rfl (by rfl) (fun wv hS => by obtain ⟨s0, s1, s2, s3, s4, s5, s6, s7, s8, s9⟩ := hS; go_simp; try with_reducible rfl) ?_)
    try simp only [Act.put, List.getElem_toArray, List.getElem_cons_succ, List.getElem_cons_zero, List.setIfInBounds_toArray, List.set_cons_zero, List.set_cons_succ]
    first | (refine Wk.skip (m := 20) (k := 46) rfl (by rfl) ?_) | (refine Wk.step (m := 20) (k := 46) (v := _) rfl (by rfl) (fun wv hS => by obtain ⟨s0, s1, s2, s3, s4, s5, s6, s7, s8, s9⟩ := hS; go_simp; try with_reducible rfl) ?_)
    try simp only [Act.put, List.getElem_toArray, List.getElem_cons_succ, List.getElem_cons_zero, List.setIfInBounds_toArray, List.set_cons_zero, List.set_cons_succ]
    first | (refine Wk.skip (m := 19) (k := 47) rfl (by rfl) ?_) | (refine Wk.step (m := 19) (k := 47) (v := _) rfl (by rfl) (fun wv hS => by obtain ⟨s0, s1, s2, s3, s4, s5, s6, s7, s8, s9⟩ := hS; go_simp; try with_reducible rfl) ?_)
    try simp only [Act.put, List.getElem_toArray, List.getElem_cons_succ, List.getElem_cons_zero, List.setIfInBounds_toArray, List.set_cons_zero, List.set_cons_succ]
    first | (refine Wk.skip (m := 18) (k := 48) rfl (by rfl) ?_) | (refine Wk.step (m := 18) (k := 48) (v := _) rfl (by rfl) (fun wv hS => by obtain ⟨s0, s1, s2, s3, s4, s5, s6, s7, s8, s9⟩ := hS; go_simp; try with_reducible rfl) ?_)
    try simp only [Act.put, List.getElem_toArray, List.getElem_cons_succ, List.getElem_cons_zero, List.setIfInBounds_toArray, List.set_cons_zero, List.set_cons_succ]
    first | (refine Wk.skip (m := 17) (k := 49) rfl (by rfl) ?_) | (refine Wk.step (m := 17) (k := 49) (v := _) rfl (by rfl) (fun wv hS => by obtain ⟨s0, s1, s2, s3, s4, s5, s6, s7, s8, s9⟩ := hS; go_simp; try with_reducible rfl) ?_)
    try simp only [Act.put, List.getElem_toArray, List.getElem_cons_succ, List.getElem_cons_zero, List.setIfInBounds_toArray, List.set_cons_zero, List.set_cons_succ]
    first | (refine Wk.skip (m := 16) (k := 50) rfl (by rfl) ?_) | (refine Wk.step (m := 16) (k := 50) (v := _) rfl (by rfl) (fun wv hS => by obtain ⟨s0, s1, s2, s3, s4, s5, s6, s7, s8, s9⟩ := hS; go_simp; try with_reducible rfl) ?_)
    try simp only [Act.put, List.getElem_toArray, List.getElem_cons_succ, List.getElem_cons_zero, List.setIfInBounds_toArray, List.set_cons_zero, List.set_cons_succ]
    first | (refine Wk.skip (m := 15) (k := 51) rfl (by rfl) ?_) | (refine Wk.step (m := 15) (k := 51) (v := _) rfl (by rfl) (fun wv hS => by obtain ⟨s0, s1, s2, s3, s4, s5, s6, s7, s8, s9⟩ := hS; go_simp; try with_reducible rfl) ?_)
    try simp only [Act.put, List.getElem_toArray, List.getElem_cons_succ, List.getElem_cons_zero, List.setIfInBounds_toArray, List.set_cons_zero, List.set_cons_succ]
    first | (refine Wk.skip (m := 14) (k := 52) rfl (by rfl) ?_) | (refine Wk.step (m := 14) (k := 52) (v := _) rfl (by rfl) (fun wv hS => by obtain ⟨s0, s1, s2, s3, s4, s5, s6, s7, s8, s9⟩ := hS; go_simp; try with_reducible rfl) ?_)
    try simp only [Act.put, List.getElem_toArray, List.getElem_cons_succ, List.getElem_cons_zero, List.setIfInBounds_toArray, List.set_cons_zero, List.set_cons_succ]
    first | (refine Wk.skip (m := 13) (k := 53) rfl (by rfl) ?_) | (refine Wk.step (m := 13) (k := 53) (v := _) rfl (by rfl) (fun wv hS => by obtain ⟨s0, s1, s2, s3, s4, s5, s6, s7, s8, s9⟩ := hS; go_simp; try with_reducible rfl) ?_)
    try simp only [Act.put, List.getElem_toArray, List.getElem_cons_succ, List.getElem_cons_zero, List.setIfInBounds_toArray, List.set_cons_zero, List.set_cons_succ]
    first | (refine Wk.skip (m := 12) (k := 54) rfl (by rfl) ?_) | (refine Wk.step (m := 12) (k := 54) (v := _) rfl (by rfl) (fun wv hS => by obtain ⟨s0, s1, s2, s3, s4, s5, s6, s7, s8, s9⟩ := hS; go_simp; try with_reducible rfl) ?_)
    try simp only [Act.put, List.getElem_toArray, List.getElem_cons_succ, List.getElem_cons_zero, List.setIfInBounds_toArray, List.set_cons_zero, List.set_cons_succ]
    first | (refine Wk.skip (m := 11) (k := 55) rfl (by rfl) ?_) | (refine Wk.step (m := 11) (k := 55) (v := _) rfl (by rfl) (fun wv hS => by obtain ⟨s0, s1, s2, s3, s4, s5, s6, s7, s8, s9⟩ := hS; go_simp; try with_reducible rfl) ?_)
    try simp only [Act.put, List.getElem_toArray, List.getElem_cons_succ, List.getElem_cons_zero, List.setIfInBounds_toArray, List.set_cons_zero, List.set_cons_succ]
    first | (refine Wk.skip (m := 10) (k := 56) rfl (by rfl) ?_) | (refine Wk.step (m := 10) (k := 56) (v := _) rfl (by rfl) (fun wv hS => by obtain ⟨s0, s1, s2, s3, s4, s5, s6, s7, s8, s9⟩ := hS; go_simp; try with_reducible rfl) ?_)
    try simp only [Act.put, List.getElem_toArray, List.getElem_cons_succ, List.getElem_cons_zero, List.setIfInBounds_toArray, List.set_cons_zero, List.set_cons_succ]
    first | (refine Wk.skip (m := 9) (k := 57) rfl (by rfl) ?_) | (refine Wk.step (m := 9) (k := 57) (v := _) rfl (by rfl) (fun wv hS => by obtain ⟨s0, s1, s2, s3, s4, s5, s6, s7, s8, s9⟩ := hS; go_simp; try with_reducible rfl) ?_)
    try simp only [Act.put, List.getElem_toArray, List.getElem_cons_succ, List.getElem_cons_zero, List.setIfInBounds_toArray, List.set_cons_zero, List.set_cons_succ]
    first | (refine Wk.skip (m := 8) (k := 58) rfl (by rfl) ?_) | (refine Wk.step (m := 8) (k := 58) (v := _) rfl (by rfl) (fun wv hS => by obtain ⟨s0, s1, s2, s3, s4, s5, s6, s7, s8, s9⟩ := hS; go_simp; try with_reducible rfl) ?_)
    try simp only [Act.put, List.getElem_toArray, List.getElem_cons_succ, List.getElem_cons_zero, List.setIfInBounds_toArray, List.set_cons_zero, List.set_cons_succ]
    first | (refine Wk.skip (m := 7) (k := 59) rfl (by rfl) ?_) | (refine Wk.step (m := 7) (k := 59) (v := _) rfl (by rfl) (fun wv hS => by obtain ⟨s0, s1, s2, s3, s4, s5, s6, s7, s8, s9⟩ := hS; go_simp; try with_reducible rfl) ?_)
    try simp only [Act.put, List.getElem_toArray, List.getElem_cons_succ, List.getElem_cons_zero, List.setIfInBounds_toArray, List.set_cons_zero, List.set_cons_succ]
    first | (refine Wk.skip (m := 6) (k := 60) rfl (by rfl) ?_) | (refine Wk.step (m := 6) (k := 60) (v := _) rfl (by rfl) (fun wv hS => by obtain ⟨s0, s1, s2, s3, s4, s5, s6, s7, s8, s9⟩ := hS; go_simp; try with_reducible rfl) ?_)
    try simp only [Act.put, List.getElem_toArray, List.getElem_cons_succ, List.getElem_cons_zero, List.setIfInBounds_toArray, List.set_cons_zero, List.set_cons_succ]
    first | (refine Wk.skip (m := 5) (k := 61) rfl (by rfl) ?_) | (refine Wk.step (m := 5) (k := 61) (v := _) rfl (by rfl) (fun wv hS => by obtain ⟨s0, s1, s2, s3, s4, s5, s6, s7, s8, s9⟩ := hS; go_simp; try with_reducible rfl) ?_)
    try simp only [Act.put, List.getElem_toArray, List.getElem_cons_succ, List.getElem_cons_zero, List.setIfInBounds_toArray, List.set_cons_zero, List.set_cons_succ]
    first | (refine Wk.skip (m := 4) (k := 62) rfl (by rfl) ?_) | (refine Wk.step (m := 4) (k := 62) (v := _) rfl (by rfl) (fun wv hS => by obtain ⟨s0, s1, s2, s3, s4, s5, s6, s7, s8, s9⟩ := hS; go_simp; try with_reducible rfl) ?_)
    try simp only [Act.put, List.getElem_toArray, List.getElem_cons_succ, List.getElem_cons_zero, List.setIfInBounds_toArray, List.set_cons_zero, List.set_cons_succ]
    first | (refine Wk.skip (m := 3) (k := 63) rfl (by rfl) ?_) | (refine Wk.step (m := 3) (k := 63) (v := _) rfl (by rfl) (fun wv hS => by obtain ⟨s0, s1, s2, s3, s4, s5, s6, s7, s8, s9⟩ := hS; go_simp; try with_reducible rfl) ?_)
    try simp only [Act.put, List.getElem_toArray, List.getElem_cons_succ, List.getElem_cons_zero, List.setIfInBounds_toArray, List.set_cons_zero, List.set_cons_succ]
    first | (refine Wk.skip (m := 2) (k := 64) rfl (by rfl) ?_) | (refine Wk.step (m := 2) (k := 64) (v := _) rfl (by rfl) (fun wv hS => by obtain ⟨s0, s1, s2, s3, s4, s5, s6, s7, s8, s9⟩ := hS; go_simp; try with_reducible rfl) ?_)
    try simp only [Act.put, List.getElem_toArray, List.getElem_cons_succ, List.getElem_cons_zero, List.setIfInBounds_toArray, List.set_cons_zero, List.set_cons_succ]
    first | (refine Wk.skip (m := 1) (k := 65) rfl (by rfl) ?_) | (refine Wk.step (m := 1) (k := 65) (v := _) rfl (by rfl) (fun wv hS => by obtain ⟨s0, s1, s2, s3, s4, s5, s6, s7, s8, s9⟩ := hS; go_simp; try with_reducible rfl) ?_)
    try simp only [Act.put, List.getElem_toArray, List.getElem_cons_succ, List.getElem_cons_zero, List.setIfInBounds_toArray, List.set_cons_zero, List.set_cons_succ]
    first | (refine Wk.skip (m := 0) (k := 66) rfl (by rfl) ?_) | (refine Wk.step (m := 0) (k := 66) (v := _) rfl (by rfl) (fun wv hS => by obtain ⟨s0, s1, s2, s3, s4, s5, s6, s7, s8, s9⟩ := hS; go_simp; try with_reducible rfl) ?_)
    try simp only [Act.put, List.getElem_toArray, List.getElem_cons_succ, List.getElem_cons_zero, List.setIfInBounds_toArray, List.set_cons_zero, List.set_cons_succ]
    refine Wk.done fun wE hE => ?_
    clear u0 u1 u2 u3 u4 u5 u6 u7 u8
    obtain ⟨mE, u0, u1, u2, u3, u4, u5, u6, u7, u8⟩ := hE
    go_wp2_with fail
    go_ret
    exact ⟨retB (by unfold vFlB; simp [K1.out]), M0.trans mE⟩
  · have K1 := Lib.hid g1
    clear g1
    cases g2 : inB x1 0 7
    · have K2 := Lib.hid g2
      clear g2
      go_enter Try.func35, Try.ntmps35
      go_wp2_with fail
      dsimp only [List.append]
      refine wp_region_wk (fun w' => Mk0 (w.alloc (Obj.cells #[Value.int .i64 x0, Value.int .i64 x1, Value.int .i64 x2, Value.int .i64 x3, Value.slice a4 n4 c4, Value.slice a5 n5 c5, Value.int .i64 x6, Value.int .i64 x7, Value.slice a8 n8 c8] 83)) w' ∧ w'.cell? ⟨w.heap.size, 0, none⟩ = some (.int .i64 x0) ∧ w'.cell? ⟨w.heap.size, 1, none⟩ = some (.int .i64 x1) ∧ w'.cell? ⟨w.heap.size, 2, none⟩ = some (.int .i64 x2) ∧ w'.cell? ⟨w.heap.size, 3, none⟩ = some (.int .i64 x3) ∧ w'.cell? ⟨w.heap.size, 4, none⟩ = some (.slice a4 n4 c4) ∧ w'.cell? ⟨w.heap.size, 5, none⟩ = some (.slice a5 n5 c5) ∧ w'.cell? ⟨w.heap.size, 6, none⟩ = some (.int .i64 x6) ∧ w'.cell? ⟨w.heap.size, 7, none⟩ = some (.int .i64 x7) ∧ w'.cell? ⟨w.heap.size, 8, none⟩ = some (.slice a8 n8 c8)) (by kernel_rfl) (by kernel_rfl) (⟨Mk.drew1 _, u0, u1, u2, u3, u4, u5, u6, u7, u8⟩) ?_
      change Wk _ _ _ _ 67 0 _
      first | (refine Wk.skip (m := 66) (k := 0) rfl (by rfl) ?_) | (refine Wk.step (m := 66) (k := 0) (v := _) rfl (by rfl) (fun wv hS => by obtain ⟨s0, s1, s2, s3, s4, s5, s6, s7, s8, s9⟩ := hS; go_simp; try with_reducible rfl) ?_)
      try simp only [Act.put, List.getElem_toArray, List.getElem_cons_zero, List.setIfInBounds_toArray, List.set_cons_zero, List.set_cons_succ]
      first | (refine Wk.skip (m := 65) (k := 1) rfl (by rfl) ?_) | (refine Wk.step (m := 65) (k := 1) (v := _) rfl (by rfl) (fun wv hS => by obtain ⟨s0, s1, s2, s3, s4, s5, s6, s7, s8, s9⟩ := hS; go_simp; try with_reducible rfl) ?_)
      try simp only [Act.put, List.getElem_toArray, List.getElem_cons_succ, List.getElem_cons_zero, List.setIfInBounds_toArray, List.set_cons_zero, List.set_cons_succ]
      refine Wk.call (m := 64) (k := 2) (v := .bool true) _ _ rfl (by rfl) (fun wv hS => by obtain ⟨s0, s1, s2, s3, s4, s5, s6, s7, s8, s9⟩ := hS; go_simp; first | done | exact ⟨rfl, rfl⟩ | with_reducible rfl) (fun wv hS => ?_) ?_; · obtain ⟨s0, s1, s2, s3, s4, s5, s6, s7, s8, s9⟩ := hS; refine (specIn _ _ _ wv).mono ?_; rintro e w' ⟨he, rfl⟩; exact ⟨by rw [he, K1.out], s0, s1, s2, s3, s4, s5, s6, s7, s8, s9⟩
      try simp only [Act.put, List.getElem_toArray, List.getElem_cons_succ, List.getElem_cons_zero, List.setIfInBounds_toArray, List.set_cons_zero, List.set_cons_succ]
      first | (refine Wk.skip (m := 63) (k := 3) rfl (by rfl) ?_) | (refine Wk.step (m := 63) (k := 3) (v := _) rfl (by rfl) (fun wv hS => by obtain ⟨s0, s1, s2, s3, s4, s5, s6, s7, s8, s9⟩ := hS; go_simp; try with_reducible rfl) ?_)
      try simp only [Act.put, List.getElem_toArray, List.getElem_cons_succ, List.getElem_cons_zero, List.setIfInBounds_toArray, List.set_cons_zero, List.set_cons_succ]
      first | (refine Wk.skip (m := 62) (k := 4) rfl (by rfl) ?_) | (refine Wk.step (m := 62) (k := 4) (v := _) rfl (by rfl) (fun wv hS => by obtain ⟨s0, s1, s2, s3, s4, s5, s6, s7, s8, s9⟩ := hS; go_simp; try with_reducible rfl) ?_)
      try simp only [Act.put, List.getElem_toArray, List.getElem_cons_succ, List.getElem_cons_zero, List.setIfInBounds_toArray, List.set_cons_zero, List.set_cons_succ]
      first | (refine Wk.skip (m := 61) (k := 5) rfl (by rfl) ?_) | (refine Wk.step (m := 61) (k := 5) (v := _) rfl (by rfl) (fun wv hS => by obtain ⟨s0, s1, s2, s3, s4, s5, s6, s7, s8, s9⟩ := hS; go_simp; try with_reducible rfl) ?_)
      try simp only [Act.put, List.getElem_toArray, List.getElem_cons_succ, List.getElem_cons_zero, List.setIfInBounds_toArray, List.set_cons_zero, List.set_cons_succ]
      first | (refine Wk.skip (m := 60) (k := 6) rfl (by rfl) ?_) | (refine Wk.step (m := 60) (k := 6) (v := _) rfl (by rfl) (fun wv hS => by obtain ⟨s0, s1, s2, s3, s4, s5, s6, s7, s8, s9⟩ := hS; go_simp; try with_reducible rfl) ?_)
      try simp only [Act.put, List.getElem_toArray, List.getElem_cons_succ, List.getElem_cons_zero, List.setIfInBounds_toArray, List.set_cons_zero, List.set_cons_succ]
      refine Wk.call (m := 59) (k := 7) (v := .bool false) _ _ rfl (by rfl) (fun wv hS => by obtain ⟨s0, s1, s2, s3, s4, s5, s6, s7, s8, s9⟩ := hS; go_simp; first | done | exact ⟨rfl, rfl⟩ | with_reducible rfl) (fun wv hS => ?_) ?_; · obtain ⟨s0, s1, s2, s3, s4, s5, s6, s7, s8, s9⟩ := hS; refine (specIn _ _ _ wv).mono ?_; rintro e w' ⟨he, rfl⟩; exact ⟨by rw [he, K2.out], s0, s1, s2, s3, s4, s5, s6, s7, s8, s9⟩
      try simp only [Act.put, List.getElem_toArray, List.getElem_cons_succ, List.getElem_cons_zero, List.setIfInBounds_toArray, List.set_cons_zero, List.set_cons_succ]
      first | (refine Wk.skip (m := 58) (k := 8) rfl (by rfl) ?_) | (refine Wk.step (m := 58) (k := 8) (v := _) rfl (by rfl) (fun wv hS => by obtain ⟨s0, s1, s2, s3, s4, s5, s6, s7, s8, s9⟩ := hS; go_simp; try with_reducible rfl) ?_)
      try simp only [Act.put, List.getElem_toArray, List.getElem_cons_succ, List.getElem_cons_zero, List.setIfInBounds_toArray, List.set_cons_zero, List.set_cons_succ]
      first | (refine Wk.skip (m := 57) (k := 9) rfl (by rfl) ?_) | (refine Wk.step (m := 57) (k := 9) (v := _) rfl (by rfl) (fun wv hS => by obtain ⟨s0, s1, s2, s3, s4, s5, s6, s7, s8, s9⟩ := hS; go_simp; try with_reducible rfl) ?_)
      try simp only [Act.put, List.getElem_toArray, List.getElem_cons_succ, List.getElem_cons_zero, List.setIfInBounds_toArray, List.set_cons_zero, List.set_cons_succ]
      first | (refine Wk.skip (m := 56) (k := 10) rfl (by rfl) ?_) | (refine Wk.step (m := 56) (k := 10) (v := _) rfl (by rfl) (fun wv hS => by obtain ⟨s0, s1, s2, s3, s4, s5, s6, s7, s8, s9⟩ := hS; go_simp; try with_reducible rfl) ?_)
      try simp only [Act.put, List.getElem_toArray, List.getElem_cons_succ, List.getElem_cons_zero, List.setIfInBounds_toArray, List.set_cons_zero, List.set_cons_succ]
      first | (refine Wk.skip (m := 55) (k := 11) rfl (by rfl) ?_) | (refine Wk.step (m := 55) (k := 11) (v := _) rfl (by rfl) (fun wv hS => by obtain ⟨s0, s1, s2, s3, s4, s5, s6, s7, s8, s9⟩ := hS; go_simp; try with_reducible rfl) ?_)
      try simp only [Act.put, List.getElem_toArray, List.getElem_cons_succ, List.getElem_cons_zero, List.setIfInBounds_toArray, List.set_cons_zero, List.set_cons_succ]
      first | (refine Wk.skip (m := 54) (k := 12) rfl (by rfl) ?_) | (refine Wk.step (m := 54) (k := 12) (v := _) rfl (by rfl) (fun wv hS => by obtain ⟨s0, s1, s2, s3, s4, s5, s6, s7, s8, s9⟩ := hS; go_simp; try with_reducible rfl) ?_)
      try simp only [Act.put, List.getElem_toArray, List.getElem_cons_succ, List.getElem_cons_zero, List.setIfInBounds_toArray, List.set_cons_zero, List.set_cons_succ]
      first | (refine Wk.skip (m := 53) (k := 13) rfl (by rfl) ?_) | (refine Wk.step (m := 53) (k := 13) (v := _) rfl (by rfl) (fun wv hS => by obtain ⟨s0, s1, s2, s3, s4, s5, s6, s7, s8, s9⟩ := hS; go_simp; try with_reducible rfl) ?_)
      try simp only [Act.put, List.getElem_toArray, List.getElem_cons_succ, List.getElem_cons_zero, List.setIfInBounds_toArray, List.set_cons_zero, List.set_cons_succ]
      first | (refine Wk.skip (m := 52) (k := 14) rfl (by rfl) ?_) | (refine Wk.step (m := 52) (k := 14) (v := _) rfl (by rfl) (fun wv hS => by obtain ⟨s0, s1, s2, s3, s4, s5, s6, s7, s8, s9⟩ := hS; go_simp; try with_reducible rfl) ?_)
      try simp only [Act.put, List.getElem_toArray, List.getElem_cons_succ, List.getElem_cons_zero, List.setIfInBounds_toArray, List.set_cons_zero, List.set_cons_succ]
      first | (refine Wk.skip (m := 51) (k := 15) rfl (by rfl) ?_) | (refine Wk.step (m := 51) (k := 15) (v := _) rfl (by rfl) (fun wv hS => by obtain ⟨s0, s1, s2, s3, s4, s5, s6, s7, s8, s9⟩ := hS; go_simp; try with_reducible rfl) ?_)
      try simp only [Act.put, List.getElem_toArray, List.getElem_cons_succ, List.getElem_cons_zero, List.setIfInBounds_toArray, List.set_cons_zero, List.set_cons_succ]
      first | (refine Wk.skip (m := 50) (k := 16) rfl (by rfl) ?_) | (refine Wk.step (m := 50) (k := 16) (v := _) rfl (by rfl) (fun wv hS => by obtain ⟨s0, s1, s2, s3, s4, s5, s6, s7, s8, s9⟩ := hS; go_simp; try with_reducible rfl) ?_)
      try simp only [Act.put, List.getElem_toArray, List.getElem_cons_succ, List.getElem_cons_zero, List.setIfInBounds_toArray, List.set_cons_zero, List.set_cons_succ]
      first | (refine Wk.skip (m := 49) (k := 17) rfl (by rfl) ?_) | (refine Wk.step (m := 49) (k := 17) (v := _) rfl (by rfl) (fun wv hS => by obtain ⟨s0, s1, s2, s3, s4, s5, s6, s7, s8, s9⟩ := hS; go_simp; try with_reducible rfl) ?_)
      try simp only [Act.put, List.getElem_toArray, List.getElem_cons_succ, List.getElem_cons_zero, List.setIfInBounds_toArray, List.set_cons_zero, List.set_cons_succ]
      first | (refine Wk.skip (m := 48) (k := 18) rfl (by rfl) ?_) | (refine Wk.step (m := 48) (k := 18) (v := _) rfl (by rfl) (fun wv hS => by obtain ⟨s0, s1, s2, s3, s4, s5, s6, s7, s8, s9⟩ := hS; go_simp; try with_reducible rfl) ?_)
      try simp only [Act.put, List.getElem_toArray, List.getElem_cons_succ, List.getElem_cons_zero, List.setIfInBounds_toArray, List.set_cons_zero, List.set_cons_succ]
      first | (refine Wk.skip (m := 47) (k := 19) rfl (by rfl) ?_) | (refine Wk.step (m := 47) (k := 19) (v := _) rfl (by rfl) (fun wv hS => by obtain ⟨s0, s1, s2, s3, s4, s5, s6, s7, s8, s9⟩ := hS; go_simp; try with_reducible rfl) ?_)
      try simp only [Act.put, List.getElem_toArray, List.getElem_cons_succ, List.getElem_cons_zero, List.setIfInBounds_toArray, List.set_cons_zero, List.set_cons_succ]
      first | (refine Wk.skip (m := 46) (k := 20) rfl (by rfl) ?_) | (refine Wk.step (m := 46) (k := 20) (v := _) rfl (by rfl) (fun wv hS => by obtain ⟨s0, s1, s2, s3, s4, s5, s6, s7, s8, s9⟩ := hS; go_simp; try with_reducible rfl) ?_)
      try simp only [Act.put, List.getElem_toArray, List.getElem_cons_succ, List.getElem_cons_zero, List.setIfInBounds_toArray, List.set_cons_zero, List.set_cons_succ]
      first | (refine Wk.skip (m := 45) (k := 21) rfl (by rfl) ?_) | (refine Wk.step (m := 45) (k := 21) (v := _) rfl (by rfl) (fun wv hS => by obtain ⟨s0, s1, s2, s3, s4, s5, s6, s7, s8, s9⟩ := hS; go_simp; try with_reducible rfl) ?_)
      try simp only [Act.put, List.getElem_toArray, List.getElem_cons_succ, List.getElem_cons_zero, List.setIfInBounds_toArray, List.set_cons_zero, List.set_cons_succ]
      first | (refine Wk.skip (m := 44) (k := 22) rfl (by rfl) ?_) | (refine Wk.step (m := 44) (k := 22) (v := _) rfl (by rfl) (fun wv hS => by obtain ⟨s0, s1, s2, s3, s4, s5, s6, s7, s8, s9⟩ := hS; go_simp; try with_reducible rfl) ?_)
      try simp only [Act.put, List.getElem_toArray, List.getElem_cons_succ, List.getElem_cons_zero, List.setIfInBounds_toArray, List.set_cons_zero, List.set_cons_succ]
      first | (refine Wk.skip (m := 43) (k := 23) rfl (by rfl) ?_) | (refine Wk.step (m := 43) (k := 23) (v := _) rfl (by rfl) (fun wv hS => by obtain ⟨s0, s1, s2, s3, s4, s5, s6, s7, s8, s9⟩ := hS; go_simp; try with_reducible rfl) ?_)
      try simp only [Act.put, List.getElem_toArray, List.getElem_cons_succ, List.getElem_cons_zero, List.setIfInBounds_toArray, List.set_cons_zero, List.set_cons_succ]
      first | (refine Wk.skip (m := 42) (k := 24) rfl (by rfl) ?_) | (refine Wk.step (m := 42) (k := 24) (v := _) rfl (by rfl) (fun wv hS => by obtain ⟨s0, s1, s2, s3, s4, s5, s6, s7, s8, s9⟩ := hS; go_simp; try with_reducible rfl) ?_)
      try simp only [Act.put, List.getElem_toArray, List.getElem_cons_succ, List.getElem_cons_zero, List.setIfInBounds_toArray, List.set_cons_zero, List.set_cons_succ]
      first | (refine Wk.skip (m := 41) (k := 25) rfl (by rfl) ?_) | (refine Wk.step (m := 41) (k := 25) (v := _) rfl (by rfl) (fun wv hS => by obtain ⟨s0, s1, s2, s3, s4, s5, s6, s7, s8, s9⟩ := hS; go_simp; try with_reducible rfl) ?_)
      try simp only [Act.put, List.getElem_toArray, List.getElem_cons_succ, List.getElem_cons_zero, List.setIfInBounds_toArray, List.set_cons_zero, List.set_cons_succ]
      first | (refine Wk.skip (m := 40) (k := 26) rfl (by rfl) ?_) | (refine Wk.step (m := 40) (k := 26) (v := _) rfl (by rfl) (fun wv hS => by obtain ⟨s0, s1, s2, s3, s4, s5, s6, s7, s8, s9⟩ := hS; go_simp; try with_reducible rfl) ?_)
      try simp only [Act.put, List.getElem_toArray, List.getElem_cons_succ, List.getElem_cons_zero, List.setIfInBounds_toArray, List.set_cons_zero, List.set_cons_succ]
      first | (refine Wk.skip (m := 39) (k := 27) rfl (by rfl) ?_) | (refine Wk.step (m := 39) (k := 27) (v := _) rfl (by rfl) (fun wv hS => by obtain ⟨s0, s1, s2, s3, s4, s5, s6, s7, s8, s9⟩ := hS; go_simp; try with_reducible rfl) ?_)
      try simp only [Act.put, List.getElem_toArray, List.getElem_cons_succ, List.getElem_cons_zero, List.setIfInBounds_toArray, List.set_cons_zero, List.set_cons_succ]
      first | (refine Wk.skip (m := 38) (k := 28) rfl (by rfl) ?_) | (refine Wk.step (m := 38) (k := 28) (v := _) rfl (by rfl) (fun wv hS => by obtain ⟨s0, s1, s2, s3, s4, s5, s6, s7, s8, s9⟩ := hS; go_simp; try with_reducible rfl) ?_)
      try simp only [Act.put, List.getElem_toArray, List.getElem_cons_succ, List.getElem_cons_zero, List.setIfInBounds_toArray, List.set_cons_zero, List.set_cons_succ]
      first | (refine Wk.skip (m := 37) (k := 29) rfl (by rfl) ?_) | (refine Wk.step (m := 37) (k := 29) (v := _) rfl (by rfl) (fun wv hS => by obtain ⟨s0, s1, s2, s3, s4, s5, s6, s7, s8, s9⟩ := hS; go_simp; try with_reducible rfl) ?_)
      try simp only [Act.put, List.getElem_toArray, List.getElem_cons_succ, List.getElem_cons_zero, List.setIfInBounds_toArray, List.set_cons_zero, List.set_cons_succ]
      first | (refine Wk.skip (m := 36) (k := 30) rfl (by rfl) ?_) | (refine Wk.step (m := 36) (k := 30) (v := _) rfl (by rfl) (fun wv hS => by obtain ⟨s0, s1, s2, s3, s4, s5, s6, s7, s8, s9⟩ := hS; go_simp; try with_reducible rfl) ?_)
      try simp only [Act.put, List.getElem_toArray, List.getElem_cons_succ, List.getElem_cons_zero, List.setIfInBounds_toArray, List.set_cons_zero, List.set_cons_succ]
      first | (refine Wk.skip (m := 35) (k := 31) rfl (by rfl) ?_) | (refine Wk.step (m := 35) (k := 31) (v := _) rfl (by rfl) (fun wv hS => by obtain ⟨s0, s1, s2, s3, s4, s5, s6, s7, s8, s9⟩ := hS; go_simp; try with_reducible rfl) ?_)
      try simp only [Act.put, List.getElem_toArray, List.getElem_cons_succ, List.getElem_cons_zero, List.setIfInBounds_toArray, List.set_cons_zero, List.set_cons_succ]
      first | (refine Wk.skip (m := 34) (k := 32) rfl (by rfl) ?_) | (refine Wk.step (m := 34) (k := 32) (v := _) rfl (by rfl) (fun wv hS => by obtain ⟨s0, s1, s2, s3, s4, s5, s6, s7, s8, s9⟩ := hS; go_simp; try with_reducible rfl) ?_)
      try simp only [Act.put, List.getElem_toArray, List.getElem_cons_succ, List.getElem_cons_zero, List.setIfInBounds_toArray, List.set_cons_zero, List.set_cons_succ]
      first | (refine Wk.skip (m := 33) (k := 33) rfl (by rfl) ?_) | (refine Wk.step (m := 33) (k := 33) (v := _) rfl (by rfl) (fun wv hS => by obtain ⟨s0, s1, s2, s3, s4, s5, s6, s7, s8, s9⟩ := hS; go_simp; try with_reducible rfl) ?_)
      try simp only [Act.put, List.getElem_toArray, List.getElem_cons_succ, List.getElem_cons_zero, List.setIfInBounds_toArray, List.set_cons_zero, List.set_cons_succ]
      first | (refine Wk.skip (m := 32) (k := 34) rfl (by rfl) ?_) | (refine Wk.step (m := 32) (k := 34) (v := _) rfl (by rfl) (fun wv hS => by obtain ⟨s0, s1, s2, s3, s4, s5, s6, s7, s8, s9⟩ := hS; go_simp; try with_reducible rfl) ?_)
      try simp only [Act.put, List.getElem_toArray, List.getElem_cons_succ, List.getElem_cons_zero, List.setIfInBounds_toArray, List.set_cons_zero, List.set_cons_succ]
      first | (refine Wk.skip (m := 31) (k := 35) rfl (by rfl) ?_) | (refine Wk.step (m := 31) (k := 35) (v := _) rfl (by rfl) (fun wv hS => by obtain ⟨s0, s1, s2, s3, s4, s5, s6, s7, s8, s9⟩ := hS; go_simp; try with_reducible rfl) ?_)
      try simp only [Act.put, List.getElem_toArray, List.getElem_cons_succ, List.getElem_cons_zero, List.setIfInBounds_toArray, List.set_cons_zero, List.set_cons_succ]
      first | (refine Wk.skip (m := 30) (k := 36) rfl (by rfl) ?_) | (refine Wk.step (m := 30) (k := 36) (v := _) rfl (by rfl) (fun wv hS => by obtain ⟨s0, s1, s2, s3, s4, s5, s6, s7, s8, s9⟩ := hS; go_simp; try with_reducible rfl) ?_)
      try simp only [Act.put, List.getElem_toArray, List.getElem_cons_succ, List.getElem_cons_zero, List.setIfInBounds_toArray, List.set_cons_zero, List.set_cons_succ]
      first | (refine Wk.skip (m := 29) (k := 37) rfl (by rfl) ?_) | (refine Wk.step (m := 29) (k := 37) (v := _) rfl (by rfl) (fun wv hS => by obtain ⟨s0, s1, s2, s3, s4, s5, s6, s7, s8, s9⟩ := hS; go_simp; try with_reducible rfl) ?_)
      try simp only [Act.put, List.getElem_toArray, List.getElem_cons_succ, List.getElem_cons_zero, List.setIfInBounds_toArray, List.set_cons_zero, List.set_cons_succ]
      first | (refine Wk.skip (m := 28) (k := 38) rfl (by rfl) ?_) | (refine Wk.step (m := 28) (k := 38) (v := _) rfl (by rfl) (fun wv hS => by obtain ⟨s0, s1, s2, s3, s4, s5, s6, s7, s8, s9⟩ := hS; go_simp; try with_reducible rfl) ?_)
      try simp only [Act.put, List.getElem_toArray, List.getElem_cons_succ, List.getElem_cons_zero, List.setIfInBounds_toArray, List.set_cons_zero, List.set_cons_succ]
      first | (refine Wk.skip (m := 27) (k := 39) rfl (by rfl) ?_) | (refine Wk.step (m := 27) (k := 39) (v := _) rfl (by rfl) (fun wv hS => by obtain ⟨s0, s1, s2, s3, s4, s5, s6, s7, s8, s9⟩ := hS; go_simp; try with_reducible rfl) ?_)
      try simp only [Act.put, List.getElem_toArray, List.getElem_cons_succ, List.getElem_cons_zero, List.setIfInBounds_toArray, List.set_cons_zero, List.set_cons_succ]
      first | (refine Wk.skip (m := 26) (k := 40) rfl (by rfl) ?_) | (refine Wk.step (m := 26) (k := 40) (v := _) rfl (by rfl) (fun wv hS => by obtain ⟨s0, s1, s2, s3, s4, s5, s6, s7, s8, s9⟩ := hS; go_simp; try with_reducible rfl) ?_)
      try simp only [Act.put, List.getElem_toArray, List.getElem_cons_succ, List.getElem_cons_zero, List.setIfInBounds_toArray, List.set_cons_zero, List.set_cons_succ]
      first | (refine Wk.skip (m := 25) (k := 41) rfl (by rfl) ?_) | (refine Wk.step (m := 25) (k := 41) (v := _) rfl (by rfl) (fun wv hS => by obtain ⟨s0, s1, s2, s3, s4, s5, s6, s7, s8, s9⟩ := hS; go_simp; try with_reducible rfl) ?_)
      try simp only [Act.put, List.getElem_toArray, List.getElem_cons_succ, List.getElem_cons_zero, List.setIfInBounds_toArray, List.set_cons_zero, List.set_cons_succ]
      first | (refine Wk.skip (m := 24) (k := 42) rfl (by rfl) ?_) | (refine Wk.step (m := 24) (k := 42) (v := _) rfl (by rfl) (fun wv hS => by obtain ⟨s0, s1, s2, s3, s4, s5, s6, s7, s8, s9⟩ := hS; go_simp; try with_reducible rfl) ?_)
      try simp only [Act.put, List.getElem_toArray, List.getElem_cons_succ, List.getElem_cons_zero, List.setIfInBounds_toArray, List.set_cons_zero, List.set_cons_succ]
      first | (refine Wk.skip (m := 23) (k := 43) rfl (by rfl) ?_) | (refine Wk.step (m := 23) (k := 43) (v := _) rfl (by rfl) (fun wv hS => by obtain ⟨s0, s1, s2, s3, s4, s5, s6, s7, s8, s9⟩ := hS; go_simp; try with_reducible rfl) ?_)
      try simp only [Act.put, List.getElem_toArray, List.getElem_cons_succ, List.getElem_cons_zero, List.setIfInBounds_toArray, List.set_cons_zero, List.set_cons_succ]
      first | (refine Wk.skip (m := 22) (k := 44) rfl (by rfl) ?_) | (refine Wk.step (m := 22) (k := 44) (v := _) rfl (by rfl) (fun wv hS => by obtain ⟨s0, s1, s2, s3, s4, s5, s6, s7, s8, s9⟩ := hS; go_simp; try with_reducible rfl) ?_)
      try simp only [Act.put, List.getElem_toArray, List.getElem_cons_succ, List.getElem_cons_zero, List.setIfInBounds_toArray, List.set_cons_zero, List.set_cons_succ]
      first | (refine Wk.skip (m := 21) (k := 45) rfl (by rfl) ?_) | (refine Wk.step (m := 21) (k := 45) (v := _) rfl (by rfl) (fun wv hS => by obtain ⟨s0, s1, s2, s3, s4, s5, s6, s7, s8, s9⟩ := hS; go_simp; try with_reducible rfl) ?_)
      try simp only [Act.put, List.getElem_toArray, List.getElem_cons_succ, List.getElem_cons_zero, List.setIfInBounds_toArray, List.set_cons_zero, List.set_cons_succ]
      first | (refine Wk.skip (m := 20) (k := 46) rfl (by rfl) ?_) | (refine Wk.step (m := 20) (k := 46) (v := _) rfl (by rfl) (fun wv hS => by obtain ⟨s0, s1, s2, s3, s4, s5, s6, s7, s8, s9⟩ := hS; go_simp; try with_reducible rfl) ?_)
      try simp only [Act.put, List.getElem_toArray, List.getElem_cons_succ, List.getElem_cons_zero, List.setIfInBounds_toArray, List.set_cons_zero, List.set_cons_succ]
      first | (refine Wk.skip (m := 19) (k := 47) rfl (by rfl) ?_) | (refine Wk.step (m := 19) (k := 47) (v := _) rfl (by rfl) (fun wv hS => by obtain ⟨s0, s1, s2, s3, s4, s5, s6, s7, s8, s9⟩ := hS; go_simp; try with_reducible rfl) ?_)
      try simp only [Act.put, List.getElem_toArray, List.getElem_cons_succ, List.getElem_cons_zero, List.setIfInBounds_toArray, List.set_cons_zero, List.set_cons_succ]
      first | (refine Wk.skip (m := 18) (k := 48) rfl (by rfl) ?_) | (refine Wk.step (m := 18) (k := 48) (v := _) rfl (by rfl) (fun wv hS => by obtain ⟨s0, s1, s2, s3, s4, s5, s6, s7, s8, s9⟩ := hS; go_simp; try with_reducible rfl) ?_)
      try simp only [Act.put, List.getElem_toArray, List.getElem_cons_succ, List.getElem_cons_zero, List.setIfInBounds_toArray, List.set_cons_zero, List.set_cons_succ]
      first | (refine Wk.skip (m := 17) (k := 49) rfl (by rfl) ?_) | (refine Wk.step (m := 17) (k := 49) (v := _) rfl (by rfl) (fun wv hS => by obtain ⟨s0, s1, s2, s3, s4, s5, s6, s7, s8, s9⟩ := hS; go_simp; try with_reducible rfl) ?_)
      try simp only [Act.put, List.getElem_toArray, List.getElem_cons_succ, List.getElem_cons_zero, List.setIfInBounds_toArray, List.set_cons_zero, List.set_cons_succ]
      first | (refine Wk.skip (m := 16) (k := 50) rfl (by rfl) ?_) | (refine Wk.step (m := 16) (k := 50) (v := _) rfl (by rfl) (fun wv hS => by obtain ⟨s0, s1, s2, s3, s4, s5, s6, s7, s8, s9⟩ := hS; go_simp; try with_reducible rfl) ?_)
      try simp only [Act.put, List.getElem_toArray, List.getElem_cons_succ, List.getElem_cons_zero, List.setIfInBounds_toArray, List.set_cons_zero, List.set_cons_succ]
      first | (refine Wk.skip (m := 15) (k := 51) rfl (by rfl) ?_) | (refine Wk.step (m := 15) (k := 51) (v := _) rfl (by rfl) (fun wv hS => by obtain ⟨s0, s1, s2, s3, s4, s5, s6, s7, s8, s9⟩ := hS; go_simp; try with_reducible rfl) ?_)
      try simp only [Act.put, List.getElem_toArray, List.getElem_cons_succ, List.getElem_cons_zero, List.setIfInBounds_toArray, List.set_cons_zero, List.set_cons_succ]
      first | (refine Wk.skip (m := 14) (k := 52) rfl (by rfl) ?_) | (refine Wk.step (m := 14) (k := 52) (v := _) rfl (by rfl) (fun wv hS => by obtain ⟨s0, s1, s2, s3, s4, s5, s6, s7, s8, s9⟩ := hS; go_simp; try with_reducible rfl) ?_)
      try simp only [Act.put, List.getElem_toArray, List.getElem_cons_succ, List.getElem_cons_zero, List.setIfInBounds_toArray, List.set_cons_zero, List.set_cons_succ]
      first | (refine Wk.skip (m := 13) (k := 53) rfl (by rfl) ?_) | (refine Wk.step (m := 13) (k := 53) (v := _) rfl (by rfl) (fun wv hS => by obtain ⟨s0, s1, s2, s3, s4, s5, s6, s7, s8, s9⟩ := hS; go_simp; try with_reducible rfl) ?_)
      try simp only [Act.put, List.getElem_toArray, List.getElem_cons_succ, List.getElem_cons_zero, List.setIfInBounds_toArray, List.set_cons_zero, List.set_cons_succ]
      first | (refine Wk.skip (m := 12) (k := 54) rfl (by rfl) ?_) | (refine Wk.step (m := 12) (k := 54) (v := _) rfl (by rfl) (fun wv hS => by obtain ⟨s0, s1, s2, s3, s4, s5, s6, s7, s8, s9⟩ := hS; go_simp; try with_reducible rfl) ?_)
      try simp only [Act.put, List.getElem_toArray, List.getElem_cons_succ, List.getElem_cons_zero, List.setIfInBounds_toArray, List.set_cons_zero, List.set_cons_succ]
      first | (refine Wk.skip (m := 11) (k := 55) rfl (by rfl) ?_) | (refine Wk.step (m := 11) (k := 55) (v := _) rfl (by rfl) (fun wv hS => by obtain ⟨s0, s1, s2, s3, s4, s5, s6, s7, s8, s9⟩ := hS; go_simp; try with_reducible rfl) ?_)
      try simp only [Act.put, List.getElem_toArray, List.getElem_cons_succ, List.getElem_cons_zero, List.setIfInBounds_toArray, List.set_cons_zero, List.set_cons_succ]
      first | (refine Wk.skip (m := 10) (k := 56) rfl (by rfl) ?_) | (refine Wk.step (m := 10) (k := 56) (v := _) rfl (by rfl) (fun wv hS => by obtain ⟨s0, s1, s2, s3, s4, s5, s6, s7, s8, s9⟩ := hS; go_simp; try with_reducible rfl) ?_)
      try simp only [Act.put, List.getElem_toArray, List.getElem_cons_succ, List.getElem_cons_zero, List.setIfInBounds_toArray, List.set_cons_zero, List.set_cons_succ]
      first | (refine Wk.skip (m := 9) (k := 57) rfl (by rfl) ?_) | (refine Wk.step (m := 9) (k := 57) (v := _) rfl (by rfl) (fun wv hS => by obtain ⟨s0, s1, s2, s3, s4, s5, s6, s7, s8, s9⟩ := hS; go_simp; try with_reducible rfl) ?_)
      try simp only [Act.put, List.getElem_toArray, List.getElem_cons_succ, List.getElem_cons_zero, List.setIfInBounds_toArray, List.set_cons_zero, List.set_cons_succ]
      first | (refine Wk.skip (m := 8) (k := 58) rfl (by rfl) ?_) | (refine Wk.step (m := 8) (k := 58) (v := _) rfl (by rfl) (fun wv hS => by obtain ⟨s0, s1, s2, s3, s4, s5, s6, s7, s8, s9⟩ := hS; go_simp; try with_reducible rfl) ?_)
      try simp only [Act.put, List.getElem_toArray, List.getElem_cons_succ, List.getElem_cons_zero, List.setIfInBounds_toArray, List.set_cons_zero, List.set_cons_succ]
      first | (refine Wk.skip (m := 7) (k := 59) rfl (by rfl) ?_) | (refine Wk.step (m := 7) (k := 59) (v := _) rfl (by rfl) (fun wv hS => by obtain ⟨s0, s1, s2, s3, s4, s5, s6, s7, s8, s9⟩ := hS; go_simp; try with_reducible rfl) ?_)
      try simp only [Act.put, List.getElem_toArray, List.getElem_cons_succ, List.getElem_cons_zero, List.setIfInBounds_toArray, List.set_cons_zero, List.set_cons_succ]
      first | (refine Wk.skip (m := 6) (k := 60) rfl (by rfl) ?_) | (refine Wk.step (m := 6) (k := 60) (v := _) rfl (by rfl) (fun wv hS => by obtain ⟨s0, s1, s2, s3, s4, s5, s6, s7, s8, s9⟩ := hS; go_simp; try with_reducible rfl) ?_)
      try simp only [Act.put, List.getElem_toArray, List.getElem_cons_succ, List.getElem_cons_zero, List.setIfInBounds_toArray, List.set_cons_zero, List.set_cons_succ]
      first | (refine Wk.skip (m := 5) (k := 61) rfl (by rfl) ?_) | (refine Wk.step (m := 5) (k := 61) (v := _) rfl (by rfl) (fun wv hS => by obtain ⟨s0, s1, s2, s3, s4, s5, s6, s7, s8, s9⟩ := hS; go_simp; try with_reducible rfl) ?_)
      try simp only [Act.put, List.getElem_toArray, List.getElem_cons_succ, List.getElem_cons_zero, List.setIfInBounds_toArray, List.set_cons_zero, List.set_cons_succ]
      first | (refine Wk.skip (m := 4) (k := 62) rfl (by rfl) ?_) | (refine Wk.step (m := 4) (k := 62) (v := _) rfl (by rfl) (fun wv hS => by obtain ⟨s0, s1, s2, s3, s4, s5, s6, s7, s8, s9⟩ := hS; go_simp; try with_reducible rfl) ?_)
      try simp only [Act.put, List.getElem_toArray, List.getElem_cons_succ, List.getElem_cons_zero, List.setIfInBounds_toArray, List.set_cons_zero, List.set_cons_succ]
      first | (refine Wk.skip (m := 3) (k := 63) rfl (by rfl) ?_) | (refine Wk.step (m := 3) (k := 63) (v := _) rfl (by rfl) (fun wv hS => by obtain ⟨s0, s1, s2, s3, s4, s5, s6, s7, s8, s9⟩ := hS; go_simp; try with_reducible rfl) ?_)
      try simp only [Act.put, List.getElem_toArray, List.getElem_cons_succ, List.getElem_cons_zero, List.setIfInBounds_toArray, List.set_cons_zero, List.set_cons_succ]
      first | (refine Wk.skip (m := 2) (k := 64) rfl (by rfl) ?_) | (refine Wk.step (m := 2) (k := 64) (v := _) rfl (by rfl) (fun wv hS => by obtain ⟨s0, s1, s2, s3, s4, s5, s6, s7, s8, s9⟩ := hS; go_simp; try with_reducible rfl) ?_)
      try simp only [Act.put, List.getElem_toArray, List.getElem_cons_succ, List.getElem_cons_zero, List.setIfInBounds_toArray, List.set_cons_zero, List.set_cons_succ]
      first | (refine Wk.skip (m := 1) (k := 65) rfl (by rfl) ?_) | (refine Wk.step (m := 1) (k := 65) (v := _) rfl (by rfl) (fun wv hS => by obtain ⟨s0, s1, s2, s3, s4, s5, s6, s7, s8, s9⟩ := hS; go_simp; try with_reducible rfl) ?_)
      try simp only [Act.put, List.getElem_toArray, List.getElem_cons_succ, List.getElem_cons_zero, List.setIfInBounds_toArray, List.set_cons_zero, List.set_cons_succ]
      first | (refine Wk.skip (m := 0) (k := 66) rfl (by rfl) ?_) | (refine Wk.step (m := 0) (k := 66) (v := _) rfl (by rfl) (fun wv hS => by obtain ⟨s0, s1, s2, s3, s4, s5, s6, s7, s8, s9⟩ := hS; go_simp; try with_reducible rfl) ?_)
      try simp only [Act.put, List.getElem_toArray, List.getElem_cons_succ, List.getElem_cons_zero, List.setIfInBounds_toArray, List.set_cons_zero, List.set_cons_succ]
      refine Wk.done fun wE hE => ?_
      clear u0 u1 u2 u3 u4 u5 u6 u7 u8
      obtain ⟨mE, u0, u1, u2, u3, u4, u5, u6, u7, u8⟩ := hE
      go_wp2_with fail
      go_ret
      exact ⟨retB (by unfold vFlB; simp [K2.out]), M0.trans mE⟩
    · have K2 := Lib.hid g2
      clear g2
      cases g3 : (x0 == x1)
      · have K3 := Lib.hid g3
        cases g4 : inB x2 0 100000
        · have K4 := Lib.hid g4
          clear g4
          go_enter Try.func35, Try.ntmps35
          go_wp2_with fail
          dsimp only [List.append]
          refine wp_region_wk (fun w' => Mk0 (w.alloc (Obj.cells #[Value.int .i64 x0, Value.int .i64 x1, Value.int .i64 x2, Value.int .i64 x3, Value.slice a4 n4 c4, Value.slice a5 n5 c5, Value.int .i64 x6, Value.int .i64 x7, Value.slice a8 n8 c8] 83)) w' ∧ w'.cell? ⟨w.heap.size, 0, none⟩ = some (.int .i64 x0) ∧ w'.cell? ⟨w.heap.size, 1, none⟩ = some (.int .i64 x1) ∧ w'.cell? ⟨w.heap.size, 2, none⟩ = some (.int .i64 x2) ∧ w'.cell? ⟨w.heap.size, 3, none⟩ = some (.int .i64 x3) ∧ w'.cell? ⟨w.heap.size, 4, none⟩ = some (.slice a4 n4 c4) ∧ w'.cell? ⟨w.heap.size, 5, none⟩ = some (.slice a5 n5 c5) ∧ w'.cell? ⟨w.heap.size, 6, none⟩ = some (.int .i64 x6) ∧ w'.cell? ⟨w.heap.size, 7, none⟩ = some (.int .i64 x7) ∧ w'.cell? ⟨w.heap.size, 8, none⟩ = some (.slice a8 n8 c8)) (by kernel_rfl) (by kernel_rfl) (⟨Mk.drew1 _, u0, u1, u2, u3, u4, u5, u6, u7, u8⟩) ?_
          change Wk _ _ _ _ 67 0 _
          first | (refine Wk.skip (m := 66) (k := 0) rfl (by rfl) ?_) | (refine Wk.step (m := 66) (k := 0) (v := _) rfl (by rfl) (fun wv hS => by obtain ⟨s0, s1, s2, s3, s4, s5, s6, s7, s8, s9⟩ := hS; go_simp; try with_reducible rfl) ?_)
          try simp only [Act.put, List.getElem_toArray, List.getElem_cons_zero, List.setIfInBounds_toArray, List.set_cons_zero, List.set_cons_succ]
          first | (refine Wk.skip (m := 65) (k := 1) rfl (by rfl) ?_) | (refine Wk.step (m := 65) (k := 1) (v := _) rfl (by rfl) (fun wv hS => by obtain ⟨s0, s1, s2, s3, s4, s5, s6, s7, s8, s9⟩ := hS; go_simp; try with_reducible rfl) ?_)
          try simp only [Act.put, List.getElem_toArray, List.getElem_cons_succ, List.getElem_cons_zero, List.setIfInBounds_toArray, List.set_cons_zero, List.set_cons_succ]
          refine Wk.call (m := 64) (k := 2) (v := .bool true) _ _ rfl (by rfl) (fun wv hS => by obtain ⟨s0, s1, s2, s3, s4, s5, s6, s7, s8, s9⟩ := hS; go_simp; first | done | exact ⟨rfl, rfl⟩ | with_reducible rfl) (fun wv hS => ?_) ?_; · obtain ⟨s0, s1, s2, s3, s4, s5, s6, s7, s8, s9⟩ := hS; refine (specIn _ _ _ wv).mono ?_; rintro e w' ⟨he, rfl⟩; exact ⟨by rw [he, K1.out], s0, s1, s2, s3, s4, s5, s6, s7, s8, s9⟩
          try simp only [Act.put, List.getElem_toArray, List.getElem_cons_succ, List.getElem_cons_zero, List.setIfInBounds_toArray, List.set_cons_zero, List.set_cons_succ]
          first | (refine Wk.skip (m := 63) (k := 3) rfl (by rfl) ?_) | (refine Wk.step (m := 63) (k := 3) (v := _) rfl (by rfl) (fun wv hS => by obtain ⟨s0, s1, s2, s3, s4, s5, s6, s7, s8, s9⟩ := hS; go_simp; try with_reducible rfl) ?_)
          try simp only [Act.put, List.getElem_toArray, List.getElem_cons_succ, List.getElem_cons_zero, List.setIfInBounds_toArray, List.set_cons_zero, List.set_cons_succ]
          first | (refine Wk.skip (m := 62) (k := 4) rfl (by rfl) ?_) | (refine Wk.step (m := 62) (k := 4) (v := _) rfl (by rfl) (fun wv hS => by obtain ⟨s0, s1, s2, s3, s4, s5, s6, s7, s8, s9⟩ := hS; go_simp; try with_reducible rfl) ?_)
          try simp only [Act.put, List.getElem_toArray, List.getElem_cons_succ, List.getElem_cons_zero, List.setIfInBounds_toArray, List.set_cons_zero, List.set_cons_succ]
          first | (refine Wk.skip (m := 61) (k := 5) rfl (by rfl) ?_) | (refine Wk.step (m := 61) (k := 5) (v := _) rfl (by rfl) (fun wv hS => by obtain ⟨s0, s1, s2, s3, s4, s5, s6, s7, s8, s9⟩ := hS; go_simp; try with_reducible rfl) ?_)
          try simp only [Act.put, List.getElem_toArray, List.getElem_cons_succ, List.getElem_cons_zero, List.setIfInBounds_toArray, List.set_cons_zero, List.set_cons_succ]
          first | (refine Wk.skip (m := 60) (k := 6) rfl (by rfl) ?_) | (refine Wk.step (m := 60) (k := 6) (v := _) rfl (by rfl) (fun wv hS => by obtain ⟨s0, s1, s2, s3, s4, s5, s6, s7, s8, s9⟩ := hS; go_simp; try with_reducible rfl) ?_)
          try simp only [Act.put, List.getElem_toArray, List.getElem_cons_succ, List.getElem_cons_zero, List.setIfInBounds_toArray, List.set_cons_zero, List.set_cons_succ]
          refine Wk.call (m := 59) (k := 7) (v := .bool true) _ _ rfl (by rfl) (fun wv hS => by obtain ⟨s0, s1, s2, s3, s4, s5, s6, s7, s8, s9⟩ := hS; go_simp; first | done | exact ⟨rfl, rfl⟩ | with_reducible rfl) (fun wv hS => ?_) ?_; · obtain ⟨s0, s1, s2, s3, s4, s5, s6, s7, s8, s9⟩ := hS; refine (specIn _ _ _ wv).mono ?_; rintro e w' ⟨he, rfl⟩; exact ⟨by rw [he, K2.out], s0, s1, s2, s3, s4, s5, s6, s7, s8, s9⟩
          try simp only [Act.put, List.getElem_toArray, List.getElem_cons_succ, List.getElem_cons_zero, List.setIfInBounds_toArray, List.set_cons_zero, List.set_cons_succ]
          first | (refine Wk.skip (m := 58) (k := 8) rfl (by rfl) ?_) | (refine Wk.step (m := 58) (k := 8) (v := _) rfl (by rfl) (fun wv hS => by obtain ⟨s0, s1, s2, s3, s4, s5, s6, s7, s8, s9⟩ := hS; go_simp; try with_reducible rfl) ?_)
          try simp only [Act.put, List.getElem_toArray, List.getElem_cons_succ, List.getElem_cons_zero, List.setIfInBounds_toArray, List.set_cons_zero, List.set_cons_succ]
          first | (refine Wk.skip (m := 57) (k := 9) rfl (by rfl) ?_) | (refine Wk.step (m := 57) (k := 9) (v := _) rfl (by rfl) (fun wv hS => by obtain ⟨s0, s1, s2, s3, s4, s5, s6, s7, s8, s9⟩ := hS; go_simp; try with_reducible rfl) ?_)
          try simp only [Act.put, List.getElem_toArray, List.getElem_cons_succ, List.getElem_cons_zero, List.setIfInBounds_toArray, List.set_cons_zero, List.set_cons_succ]
          first | (refine Wk.skip (m := 56) (k := 10) rfl (by rfl) ?_) | (refine Wk.step (m := 56) (k := 10) (v := _) rfl (by rfl) (fun wv hS => by obtain ⟨s0, s1, s2, s3, s4, s5, s6, s7, s8, s9⟩ := hS; go_simp; try with_reducible rfl) ?_)
          try simp only [Act.put, List.getElem_toArray, List.getElem_cons_succ, List.getElem_cons_zero, List.setIfInBounds_toArray, List.set_cons_zero, List.set_cons_succ]
          first | (refine Wk.skip (m := 55) (k := 11) rfl (by rfl) ?_) | (refine Wk.step (m := 55) (k := 11) (v := _) rfl (by rfl) (fun wv hS => by obtain ⟨s0, s1, s2, s3, s4, s5, s6, s7, s8, s9⟩ := hS; go_simp; try with_reducible rfl) ?_)
          try simp only [Act.put, List.getElem_toArray, List.getElem_cons_succ, List.getElem_cons_zero, List.setIfInBounds_toArray, List.set_cons_zero, List.set_cons_succ]
          first | (refine Wk.skip (m := 54) (k := 12) rfl (by rfl) ?_) | (refine Wk.step (m := 54) (k := 12) (v := _) rfl (by rfl) (fun wv hS => by obtain ⟨s0, s1, s2, s3, s4, s5, s6, s7, s8, s9⟩ := hS; go_simp; try with_reducible rfl) ?_)
          try simp only [Act.put, List.getElem_toArray, List.getElem_cons_succ, List.getElem_cons_zero, List.setIfInBounds_toArray, List.set_cons_zero, List.set_cons_succ]
          first | (refine Wk.skip (m := 53) (k := 13) rfl (by rfl) ?_) | (refine Wk.step (m := 53) (k := 13) (v := _) rfl (by rfl) (fun wv hS => by obtain ⟨s0, s1, s2, s3, s4, s5, s6, s7, s8, s9⟩ := hS; go_simp; try with_reducible rfl) ?_)
          try simp only [Act.put, List.getElem_toArray, List.getElem_cons_succ, List.getElem_cons_zero, List.setIfInBounds_toArray, List.set_cons_zero, List.set_cons_succ]
          first | (refine Wk.skip (m := 52) (k := 14) rfl (by rfl) ?_) | (refine Wk.step (m := 52) (k := 14) (v := _) rfl (by rfl) (fun wv hS => by obtain ⟨s0, s1, s2, s3, s4, s5, s6, s7, s8, s9⟩ := hS; go_simp; try with_reducible rfl) ?_)
          try simp only [Act.put, List.getElem_toArray, List.getElem_cons_succ, List.getElem_cons_zero, List.setIfInBounds_toArray, List.set_cons_zero, List.set_cons_succ]
          first | (refine Wk.skip (m := 51) (k := 15) rfl (by rfl) ?_) | (refine Wk.step (m := 51) (k := 15) (v := _) rfl (by rfl) (fun wv hS => by obtain ⟨s0, s1, s2, s3, s4, s5, s6, s7, s8, s9⟩ := hS; go_simp; try with_reducible rfl) ?_)
          try simp only [Act.put, List.getElem_toArray, List.getElem_cons_succ, List.getElem_cons_zero, List.setIfInBounds_toArray, List.set_cons_zero, List.set_cons_succ]
          first | (refine Wk.skip (m := 50) (k := 16) rfl (by rfl) ?_) | (refine Wk.step (m := 50) (k := 16) (v := _) rfl (by rfl) (fun wv hS => by obtain ⟨s0, s1, s2, s3, s4, s5, s6, s7, s8, s9⟩ := hS; go_simp; try with_reducible rfl) ?_)
          try simp only [Act.put, List.getElem_toArray, List.getElem_cons_succ, List.getElem_cons_zero, List.setIfInBounds_toArray, List.set_cons_zero, List.set_cons_succ]
          first | (refine Wk.skip (m := 49) (k := 17) rfl (by rfl) ?_) | (refine Wk.step (m := 49) (k := 17) (v := _) rfl (by rfl) (fun wv hS => by obtain ⟨s0, s1, s2, s3, s4, s5, s6, s7, s8, s9⟩ := hS; go_simp; try with_reducible rfl) ?_)
          try simp only [Act.put, List.getElem_toArray, List.getElem_cons_succ, List.getElem_cons_zero, List.setIfInBounds_toArray, List.set_cons_zero, List.set_cons_succ]
          first | (refine Wk.skip (m := 48) (k := 18) rfl (by rfl) ?_) | (refine Wk.step (m := 48) (k := 18) (v := _) rfl (by rfl) (fun wv hS => by obtain ⟨s0, s1, s2, s3, s4, s5, s6, s7, s8, s9⟩ := hS; go_simp; try with_reducible rfl) ?_)
          try simp only [Act.put, List.getElem_toArray, List.getElem_cons_succ, List.getElem_cons_zero, List.setIfInBounds_toArray, List.set_cons_zero, List.set_cons_succ]
          first | (refine Wk.skip (m := 47) (k := 19) rfl (by rfl) ?_) | (refine Wk.step (m := 47) (k := 19) (v := _) rfl (by rfl) (fun wv hS => by obtain ⟨s0, s1, s2, s3, s4, s5, s6, s7, s8, s9⟩ := hS; go_simp; try with_reducible rfl) ?_)
          try simp only [Act.put, List.getElem_toArray, List.getElem_cons_succ, List.getElem_cons_zero, List.setIfInBounds_toArray, List.set_cons_zero, List.set_cons_succ]
          refine Wk.call (m := 46) (k := 20) (v := .bool false) _ _ rfl (by rfl) (fun wv hS => by obtain ⟨s0, s1, s2, s3, s4, s5, s6, s7, s8, s9⟩ := hS; go_simp; first | done | exact ⟨rfl, rfl⟩ | with_reducible rfl) (fun wv hS => ?_) ?_; · obtain ⟨s0, s1, s2, s3, s4, s5, s6, s7, s8, s9⟩ := hS; refine (specIn _ _ _ wv).mono ?_; rintro e w' ⟨he, rfl⟩; exact ⟨by rw [he, K4.out], s0, s1, s2, s3, s4, s5, s6, s7, s8, s9⟩
          try simp only [Act.put, List.getElem_toArray, List.getElem_cons_succ, List.getElem_cons_zero, List.setIfInBounds_toArray, List.set_cons_zero, List.set_cons_succ]
          first | (refine Wk.skip (m := 45) (k := 21) rfl (by rfl) ?_) | (refine Wk.step (m := 45) (k := 21) (v := _) rfl (by rfl) (fun wv hS => by obtain ⟨s0, s1, s2, s3, s4, s5, s6, s7, s8, s9⟩ := hS; go_simp; try with_reducible rfl) ?_)
          try simp only [Act.put, List.getElem_toArray, List.getElem_cons_succ, List.getElem_cons_zero, List.setIfInBounds_toArray, List.set_cons_zero, List.set_cons_succ]
          first | (refine Wk.skip (m := 44) (k := 22) rfl (by rfl) ?_) | (refine Wk.step (m := 44) (k := 22) (v := _) rfl (by rfl) (fun wv hS => by obtain ⟨s0, s1, s2, s3, s4, s5, s6, s7, s8, s9⟩ := hS; go_simp; try with_reducible rfl) ?_)
          try simp only [Act.put, List.getElem_toArray, List.getElem_cons_succ, List.getElem_cons_zero, List.setIfInBounds_toArray, List.set_cons_zero, List.set_cons_succ]
          first | (refine Wk.skip (m := 43) (k := 23) rfl (by rfl) ?_) | (refine Wk.step (m := 43) (k := 23) (v := _) rfl (by rfl) (fun wv hS => by obtain ⟨s0, s1, s2, s3, s4, s5, s6, s7, s8, s9⟩ := hS; go_simp; try with_reducible rfl) ?_)
          try simp only [Act.put, List.getElem_toArray, List.getElem_cons_succ, List.getElem_cons_zero, List.setIfInBounds_toArray, List.set_cons_zero, List.set_cons_succ]
          first | (refine Wk.skip (m := 42) (k := 24) rfl (by rfl) ?_) | (refine Wk.step (m := 42) (k := 24) (v := _) rfl (by rfl) (fun wv hS => by obtain ⟨s0, s1, s2, s3, s4, s5, s6, s7, s8, s9⟩ := hS; go_simp; try with_reducible rfl) ?_)
          try simp only [Act.put, List.getElem_toArray, List.getElem_cons_succ, List.getElem_cons_zero, List.setIfInBounds_toArray, List.set_cons_zero, List.set_cons_succ]
          first | (refine Wk.skip (m := 41) (k := 25) rfl (by rfl) ?_) | (refine Wk.step (m := 41) (k := 25) (v := _) rfl (by rfl) (fun wv hS => by obtain ⟨s0, s1, s2, s3, s4, s5, s6, s7, s8, s9⟩ := hS; go_simp; try with_reducible rfl) ?_)
          try simp only [Act.put, List.getElem_toArray, List.getElem_cons_succ, List.getElem_cons_zero, List.setIfInBounds_toArray, List.set_cons_zero, List.set_cons_succ]
          first | (refine Wk.skip (m := 40) (k := 26) rfl (by rfl) ?_) | (refine Wk.step (m := 40) (k := 26) (v := _) rfl (by rfl) (fun wv hS => by obtain ⟨s0, s1, s2, s3, s4, s5, s6, s7, s8, s9⟩ := hS; go_simp; try with_reducible rfl) ?_)
          try simp only [Act.put, List.getElem_toArray, List.getElem_cons_succ, List.getElem_cons_zero, List.setIfInBounds_toArray, List.set_cons_zero, List.set_cons_succ]
          first | (refine Wk.skip (m := 39) (k := 27) rfl (by rfl) ?_) | (refine Wk.step (m := 39) (k := 27) (v := _) rfl (by rfl) (fun wv hS => by obtain ⟨s0, s1, s2, s3, s4, s5, s6, s7, s8, s9⟩ := hS; go_simp; try with_reducible rfl) ?_)
          try simp only [Act.put, List.getElem_toArray, List.getElem_cons_succ, List.getElem_cons_zero, List.setIfInBounds_toArray, List.set_cons_zero, List.set_cons_succ]
          first | (refine Wk.skip (m := 38) (k := 28) rfl (by rfl) ?_) | (refine Wk.step (m := 38) (k := 28) (v := _) rfl (by rfl) (fun wv hS => by obtain ⟨s0, s1, s2, s3, s4, s5, s6, s7, s8, s9⟩ := hS; go_simp; try with_reducible rfl) ?_)
          try simp only [Act.put, List.getElem_toArray, List.getElem_cons_succ, List.getElem_cons_zero, List.setIfInBounds_toArray, List.set_cons_zero, List.set_cons_succ]
          first | (refine Wk.skip (m := 37) (k := 29) rfl (by rfl) ?_) | (refine Wk.step (m := 37) (k := 29) (v := _) rfl (by rfl) (fun wv hS => by obtain ⟨s0, s1, s2, s3, s4, s5, s6, s7, s8, s9⟩ := hS; go_simp; try with_reducible rfl) ?_)
          try simp only [Act.put, List.getElem_toArray, List.getElem_cons_succ, List.getElem_cons_zero, List.setIfInBounds_toArray, List.set_cons_zero, List.set_cons_succ]
          first | (refine Wk.skip (m := 36) (k := 30) rfl (by rfl) ?_) | (refine Wk.step (m := 36) (k := 30) (v := _) rfl (by rfl) (fun wv hS => by obtain ⟨s0, s1, s2, s3, s4, s5, s6, s7, s8, s9⟩ := hS; go_simp; try with_reducible rfl) ?_)
          try simp only [Act.put, List.getElem_toArray, List.getElem_cons_succ, List.getElem_cons_zero, List.setIfInBounds_toArray, List.set_cons_zero, List.set_cons_succ]
          first | (refine Wk.skip (m := 35) (k := 31) rfl (by rfl) ?_) | (refine Wk.step (m := 35) (k := 31) (v := _) rfl (by rfl) (fun wv hS => by obtain ⟨s0, s1, s2, s3, s4, s5, s6, s7, s8, s9⟩ := hS; go_simp; try with_reducible rfl) ?_)
          try simp only [Act.put, List.getElem_toArray, List.getElem_cons_succ, List.getElem_cons_zero, List.setIfInBounds_toArray, List.set_cons_zero, List.set_cons_succ]
          first | (refine Wk.skip (m := 34) (k := 32) rfl (by rfl) ?_) | (refine Wk.step (m := 34) (k := 32) (v := _) rfl (by rfl) (fun wv hS => by obtain ⟨s0, s1, s2, s3, s4, s5, s6, s7, s8, s9⟩ := hS; go_simp; try with_reducible rfl) ?_)
          try simp only [Act.put, List.getElem_toArray, List.getElem_cons_succ, List.getElem_cons_zero, List.setIfInBounds_toArray, List.set_cons_zero, List.set_cons_succ]
          first | (refine Wk.skip (m := 33) (k := 33) rfl (by rfl) ?_) | (refine Wk.step (m := 33) (k := 33) (v := _) rfl (by rfl) (fun wv hS => by obtain ⟨s0, s1, s2, s3, s4, s5, s6, s7, s8, s9⟩ := hS; go_simp; try with_reducible rfl) ?_)
          try simp only [Act.put, List.getElem_toArray, List.getElem_cons_succ, List.getElem_cons_zero, List.setIfInBounds_toArray, List.set_cons_zero, List.set_cons_succ]
          first | (refine Wk.skip (m := 32) (k := 34) rfl (by rfl) ?_) | (refine Wk.step (m := 32) (k := 34) (v := _) rfl (by rfl) (fun wv hS => by obtain ⟨s0, s1, s2, s3, s4, s5, s6, s7, s8, s9⟩ := hS; go_simp; try with_reducible rfl) ?_)
          try simp only [Act.put, List.getElem_toArray, List.getElem_cons_succ, List.getElem_cons_zero, List.setIfInBounds_toArray, List.set_cons_zero, List.set_cons_succ]
          first | (refine Wk.skip (m := 31) (k := 35) rfl (by rfl) ?_) | (refine Wk.step (m := 31) (k := 35) (v := _) rfl (by rfl) (fun wv hS => by obtain ⟨s0, s1, s2, s3, s4, s5, s6, s7, s8, s9⟩ := hS; go_simp; try with_reducible rfl) ?_)
          try simp only [Act.put, List.getElem_toArray, List.getElem_cons_succ, List.getElem_cons_zero, List.setIfInBounds_toArray, List.set_cons_zero, List.set_cons_succ]
          first | (refine Wk.skip (m := 30) (k := 36) rfl (by rfl) ?_) | (refine Wk.step (m := 30) (k := 36) (v := _) rfl (by rfl) (fun wv hS => by obtain ⟨s0, s1, s2, s3, s4, s5, s6, s7, s8, s9⟩ := hS; go_simp; try with_reducible rfl) ?_)
          try simp only [Act.put, List.getElem_toArray, List.getElem_cons_succ, List.getElem_cons_zero, List.setIfInBounds_toArray, List.set_cons_zero, List.set_cons_succ]
          first | (refine Wk.skip (m := 29) (k := 37) rfl (by rfl) ?_) | (refine Wk.step (m := 29) (k := 37) (v := _) rfl (by rfl) (fun wv hS => by obtain ⟨s0, s1, s2, s3, s4, s5, s6, s7, s8, s9⟩ := hS; go_simp; try with_reducible rfl) ?_)
          try simp only [Act.put, List.getElem_toArray, List.getElem_cons_succ, List.getElem_cons_zero, List.setIfInBounds_toArray, List.set_cons_zero, List.set_cons_succ]
          first | (refine Wk.skip (m := 28) (k := 38) rfl (by rfl) ?_) | (refine Wk.step (m := 28) (k := 38) (v := _) rfl (by rfl) (fun wv hS => by obtain ⟨s0, s1, s2, s3, s4, s5, s6, s7, s8, s9⟩ := hS; go_simp; try with_reducible rfl) ?_)
          try simp only [Act.put, List.getElem_toArray, List.getElem_cons_succ, List.getElem_cons_zero, List.setIfInBounds_toArray, List.set_cons_zero, List.set_cons_succ]
          first | (refine Wk.skip (m := 27) (k := 39) rfl (by rfl) ?_) | (refine Wk.step (m := 27) (k := 39) (v := _) rfl (by rfl) (fun wv hS => by obtain ⟨s0, s1, s2, s3, s4, s5, s6, s7, s8, s9⟩ := hS; go_simp; try with_reducible rfl) ?_)
          try simp only [Act.put, List.getElem_toArray, List.getElem_cons_succ, List.getElem_cons_zero, List.setIfInBounds_toArray, List.set_cons_zero, List.set_cons_succ]
          first | (refine Wk.skip (m := 26) (k := 40) rfl (by rfl) ?_) | (refine Wk.step (m := 26) (k := 40) (v := _) rfl (by rfl) (fun wv hS => by obtain ⟨s0, s1, s2, s3, s4, s5, s6, s7, s8, s9⟩ := hS; go_simp; try with_reducible rfl) ?_)
          try simp only [Act.put, List.getElem_toArray, List.getElem_cons_succ, List.getElem_cons_zero, List.setIfInBounds_toArray, List.set_cons_zero, List.set_cons_succ]
          first | (refine Wk.skip (m := 25) (k := 41) rfl (by rfl) ?_) | (refine Wk.step (m := 25) (k := 41) (v := _) rfl (by rfl) (fun wv hS => by obtain ⟨s0, s1, s2, s3, s4, s5, s6, s7, s8, s9⟩ := hS; go_simp; try with_reducible rfl) ?_)
          try simp only [Act.put, List.getElem_toArray, List.getElem_cons_succ, List.getElem_cons_zero, List.setIfInBounds_toArray, List.set_cons_zero, List.set_cons_succ]
          first | (refine Wk.skip (m := 24) (k := 42) rfl (by rfl) ?_) | (refine Wk.step (m := 24) (k := 42) (v := _) rfl (by rfl) (fun wv hS => by obtain ⟨s0, s1, s2, s3, s4, s5, s6, s7, s8, s9⟩ := hS; go_simp; try with_reducible rfl) ?_)
          try simp only [Act.put, List.getElem_toArray, List.getElem_cons_succ, List.getElem_cons_zero, List.setIfInBounds_toArray, List.set_cons_zero, List.set_cons_succ]
          first | (refine Wk.skip (m := 23) (k := 43) rfl (by rfl) ?_) | (refine Wk.step (m := 23) (k := 43) (v := _) rfl (by rfl) (fun wv hS => by obtain ⟨s0, s1, s2, s3, s4, s5, s6, s7, s8, s9⟩ := hS; go_simp; try with_reducible rfl) ?_)
          try simp only [Act.put, List.getElem_toArray, List.getElem_cons_succ, List.getElem_cons_zero, List.setIfInBounds_toArray, List.set_cons_zero, List.set_cons_succ]
          first | (refine Wk.skip (m := 22) (k := 44) rfl (by rfl) ?_) | (refine Wk.step (m := 22) (k := 44) (v := _) rfl (by rfl) (fun wv hS => by obtain ⟨s0, s1, s2, s3, s4, s5, s6, s7, s8, s9⟩ := hS; go_simp; try with_reducible rfl) ?_)
          try simp only [Act.put, List.getElem_toArray, List.getElem_cons_succ, List.getElem_cons_zero, List.setIfInBounds_toArray, List.set_cons_zero, List.set_cons_succ]
          first | (refine Wk.skip (m := 21) (k := 45) rfl (by rfl) ?_) | (refine Wk.step (m := 21) (k := 45) (v := _) rfl (by rfl) (fun wv hS => by obtain ⟨s0, s1, s2, s3, s4, s5, s6, s7, s8, s9⟩ := hS; go_simp; try with_reducible rfl) ?_)
          try simp only [Act.put, List.getElem_toArray, List.getElem_cons_succ, List.getElem_cons_zero, List.setIfInBounds_toArray, List.set_cons_zero, List.set_cons_succ]
          first | (refine Wk.skip (m := 20) (k := 46) rfl (by rfl) ?_) | (refine Wk.step (m := 20) (k := 46) (v := _) rfl (by rfl) (fun wv hS => by obtain ⟨s0, s1, s2, s3, s4, s5, s6, s7, s8, s9⟩ := hS; go_simp; try with_reducible rfl) ?_)
          try simp only [Act.put, List.getElem_toArray, List.getElem_cons_succ, List.getElem_cons_zero, List.setIfInBounds_toArray, List.set_cons_zero, List.set_cons_succ]
          first | (refine Wk.skip (m := 19) (k := 47) rfl (by rfl) ?_) | (refine Wk.step (m := 19) (k := 47) (v := _) rfl (by rfl) (fun wv hS => by obtain ⟨s0, s1, s2, s3, s4, s5, s6, s7, s8, s9⟩ := hS; go_simp; try with_reducible rfl) ?_)
          try simp only [Act.put, List.getElem_toArray, List.getElem_cons_succ, List.getElem_cons_zero, List.setIfInBounds_toArray, List.set_cons_zero, List.set_cons_succ]
          first | (refine Wk.skip (m := 18) (k := 48) rfl (by rfl) ?_) | (refine Wk.step (m := 18) (k := 48) (v := _) rfl (by rfl) (fun wv hS => by obtain ⟨s0, s1, s2, s3, s4, s5, s6, s7, s8, s9⟩ := hS; go_simp; try with_reducible rfl) ?_)
          try simp only [Act.put, List.getElem_toArray, List.getElem_cons_succ, List.getElem_cons_zero, List.setIfInBounds_toArray, List.set_cons_zero, List.set_cons_succ]
          first | (refine Wk.skip (m := 17) (k := 49) rfl (by rfl) ?_) | (refine Wk.step (m := 17) (k := 49) (v := _) rfl (by rfl) (fun wv hS => by obtain ⟨s0, s1, s2, s3, s4, s5, s6, s7, s8, s9⟩ := hS; go_simp; try with_reducible rfl) ?_)
          try simp only [Act.put, List.getElem_toArray, List.getElem_cons_succ, List.getElem_cons_zero, List.setIfInBounds_toArray, List.set_cons_zero, List.set_cons_succ]
          first | (refine Wk.skip (m := 16) (k := 50) rfl (by rfl) ?_) | (refine Wk.step (m := 16) (k := 50) (v := _) rfl (by rfl) (fun wv hS => by obtain ⟨s0, s1, s2, s3, s4, s5, s6, s7, s8, s9⟩ := hS; go_simp; try with_reducible rfl) ?_)
          try simp only [Act.put, List.getElem_toArray, List.getElem_cons_succ, List.getElem_cons_zero, List.setIfInBounds_toArray, List.set_cons_zero, List.set_cons_succ]
          first | (refine Wk.skip (m := 15) (k := 51) rfl (by rfl) ?_) | (refine Wk.step (m := 15) (k := 51) (v := _) rfl (by rfl) (fun wv hS => by obtain ⟨s0, s1, s2, s3, s4, s5, s6, s7, s8, s9⟩ := hS; go_simp; try with_reducible rfl) ?_)
          try simp only [Act.put, List.getElem_toArray, List.getElem_cons_succ, List.getElem_cons_zero, List.setIfInBounds_toArray, List.set_cons_zero, List.set_cons_succ]
          first | (refine Wk.skip (m := 14) (k := 52) rfl (by rfl) ?_) | (refine Wk.step (m := 14) (k := 52) (v := _) rfl (by rfl) (fun wv hS => by obtain ⟨s0, s1, s2, s3, s4, s5, s6, s7, s8, s9⟩ := hS; go_simp; try with_reducible rfl) ?_)
          try simp only [Act.put, List.getElem_toArray, List.getElem_cons_succ, List.getElem_cons_zero, List.setIfInBounds_toArray, List.set_cons_zero, List.set_cons_succ]
          first | (refine Wk.skip (m := 13) (k := 53) rfl (by rfl) ?_) | (refine Wk.step (m := 13) (k := 53) (v := _) rfl (by rfl) (fun wv hS => by obtain ⟨s0, s1, s2, s3, s4, s5, s6, s7, s8, s9⟩ := hS; go_simp; try with_reducible rfl) ?_)
          try simp only [Act.put, List.getElem_toArray, List.getElem_cons_succ, List.getElem_cons_zero, List.setIfInBounds_toArray, List.set_cons_zero, List.set_cons_succ]
          first | (refine Wk.skip (m := 12) (k := 54) rfl (by rfl) ?_) | (refine Wk.step (m := 12) (k := 54) (v := _) rfl (by rfl) (fun wv hS => by obtain ⟨s0, s1, s2, s3, s4, s5, s6, s7, s8, s9⟩ := hS; go_simp; try with_reducible rfl) ?_)
          try simp only [Act.put, List.getElem_toArray, List.getElem_cons_succ, List.getElem_cons_zero, List.setIfInBounds_toArray, List.set_cons_zero, List.set_cons_succ]
          first | (refine Wk.skip (m := 11) (k := 55) rfl (by rfl) ?_) | (refine Wk.step (m := 11) (k := 55) (v := _) rfl (by rfl) (fun wv hS => by obtain ⟨s0, s1, s2, s3, s4, s5, s6, s7, s8, s9⟩ := hS; go_simp; try with_reducible rfl) ?_)
          try simp only [Act.put, List.getElem_toArray, List.getElem_cons_succ, List.getElem_cons_zero, List.setIfInBounds_toArray, List.set_cons_zero, List.set_cons_succ]
          first | (refine Wk.skip (m := 10) (k := 56) rfl (by rfl) ?_) | (refine Wk.step (m := 10) (k := 56) (v := _) rfl (by rfl) (fun wv hS => by obtain ⟨s0, s1, s2, s3, s4, s5, s6, s7, s8, s9⟩ := hS; go_simp; try with_reducible rfl) ?_)
          try simp only [Act.put, List.getElem_toArray, List.getElem_cons_succ, List.getElem_cons_zero, List.setIfInBounds_toArray, List.set_cons_zero, List.set_cons_succ]
          first | (refine Wk.skip (m := 9) (k := 57) rfl (by rfl) ?_) | (refine Wk.step (m := 9) (k := 57) (v := _) rfl (by rfl) (fun wv hS => by obtain ⟨s0, s1, s2, s3, s4, s5, s6, s7, s8, s9⟩ := hS; go_simp; try with_reducible rfl) ?_)
          try simp only [Act.put, List.getElem_toArray, List.getElem_cons_succ, List.getElem_cons_zero, List.setIfInBounds_toArray, List.set_cons_zero, List.set_cons_succ]
          first | (refine Wk.skip (m := 8) (k := 58) rfl (by rfl) ?_) | (refine Wk.step (m := 8) (k := 58) (v := _) rfl (by rfl) (fun wv hS => by obtain ⟨s0, s1, s2, s3, s4, s5, s6, s7, s8, s9⟩ := hS; go_simp; try with_reducible rfl) ?_)
          try simp only [Act.put, List.getElem_toArray, List.getElem_cons_succ, List.getElem_cons_zero, List.setIfInBounds_toArray, List.set_cons_zero, List.set_cons_succ]
          first | (refine Wk.skip (m := 7) (k := 59) rfl (by rfl) ?_) | (refine Wk.step (m := 7) (k := 59) (v := _) rfl (by rfl) (fun wv hS => by obtain ⟨s0, s1, s2, s3, s4, s5, s6, s7, s8, s9⟩ := hS; go_simp; try with_reducible rfl) ?_)
          try simp only [Act.put, List.getElem_toArray, List.getElem_cons_succ, List.getElem_cons_zero, List.setIfInBounds_toArray, List.set_cons_zero, List.set_cons_succ]
          first | (refine Wk.skip (m := 6) (k := 60) rfl (by rfl) ?_) | (refine Wk.step (m := 6) (k := 60) (v := _) rfl (by rfl) (fun wv hS => by obtain ⟨s0, s1, s2, s3, s4, s5, s6, s7, s8, s9⟩ := hS; go_simp; try with_reducible rfl) ?_)
          try simp only [Act.put, List.getElem_toArray, List.getElem_cons_succ, List.getElem_cons_zero, List.setIfInBounds_toArray, List.set_cons_zero, List.set_cons_succ]
          first | (refine Wk.skip (m := 5) (k := 61) rfl (by rfl) ?_) | (refine Wk.step (m := 5) (k := 61) (v := _) rfl (by rfl) (fun wv hS => by obtain ⟨s0, s1, s2, s3, s4, s5, s6, s7, s8, s9⟩ := hS; go_simp; try with_reducible rfl) ?_)
          try simp only [Act.put, List.getElem_toArray, List.getElem_cons_succ, List.getElem_cons_zero, List.setIfInBounds_toArray, List.set_cons_zero, List.set_cons_succ]
          first | (refine Wk.skip (m := 4) (k := 62) rfl (by rfl) ?_) | (refine Wk.step (m := 4) (k := 62) (v := _) rfl (by rfl) (fun wv hS => by obtain ⟨s0, s1, s2, s3, s4, s5, s6, s7, s8, s9⟩ := hS; go_simp; try with_reducible rfl) ?_)
          try simp only [Act.put, List.getElem_toArray, List.getElem_cons_succ, List.getElem_cons_zero, List.setIfInBounds_toArray, List.set_cons_zero, List.set_cons_succ]
          first | (refine Wk.skip (m := 3) (k := 63) rfl (by rfl) ?_) | (refine Wk.step (m := 3) (k := 63) (v := _) rfl (by rfl) (fun wv hS => by obtain ⟨s0, s1, s2, s3, s4, s5, s6, s7, s8, s9⟩ := hS; go_simp; try with_reducible rfl) ?_)
          try simp only [Act.put, List.getElem_toArray, List.getElem_cons_succ, List.getElem_cons_zero, List.setIfInBounds_toArray, List.set_cons_zero, List.set_cons_succ]
          first | (refine Wk.skip (m := 2) (k := 64) rfl (by rfl) ?_) | (refine Wk.step (m := 2) (k := 64) (v := _) rfl (by rfl) (fun wv hS => by obtain ⟨s0, s1, s2, s3, s4, s5, s6, s7, s8, s9⟩ := hS; go_simp; try with_reducible rfl) ?_)
          try simp only [Act.put, List.getElem_toArray, List.getElem_cons_succ, List.getElem_cons_zero, List.setIfInBounds_toArray, List.set_cons_zero, List.set_cons_succ]
          first | (refine Wk.skip (m := 1) (k := 65) rfl (by rfl) ?_) | (refine Wk.step (m := 1) (k := 65) (v := _) rfl (by rfl) (fun wv hS => by obtain ⟨s0, s1, s2, s3, s4, s5, s6, s7, s8, s9⟩ := hS; go_simp; try with_reducible rfl) ?_)
          try simp only [Act.put, List.getElem_toArray, List.getElem_cons_succ, List.getElem_cons_zero, List.setIfInBounds_toArray, List.set_cons_zero, List.set_cons_succ]
          first | (refine Wk.skip (m := 0) (k := 66) rfl (by rfl) ?_) | (refine Wk.step (m := 0) (k := 66) (v := _) rfl (by rfl) (fun wv hS => by obtain ⟨s0, s1, s2, s3, s4, s5, s6, s7, s8, s9⟩ := hS; go_simp; try with_reducible rfl) ?_)
          try simp only [Act.put, List.getElem_toArray, List.getElem_cons_succ, List.getElem_cons_zero, List.setIfInBounds_toArray, List.set_cons_zero, List.set_cons_succ]
          refine Wk.done fun wE hE => ?_
          clear u0 u1 u2 u3 u4 u5 u6 u7 u8
          obtain ⟨mE, u0, u1, u2, u3, u4, u5, u6, u7, u8⟩ := hE
          go_wp2_with fail
          go_ret
          exact ⟨retB (by unfold vFlB; simp [K4.out]), M0.trans mE⟩
        · have K4 := Lib.hid g4
          clear g4
          by_cases g5 : (n4 : Int) ≤ 20
          · have K5 := Lib.hid (show decide ((n4 : Int) ≤ 20) = true from decide_eq_true g5)
            have q5 : decide ((20 : Int) < (n4 : Int)) = false := decide_eq_false (by omega)
            rw [K1.out, K2.out, K3.out, K4.out, K5.out] at hN
            exact absurd hN (by decide)
          · have K5 := Lib.hid (show decide ((n4 : Int) ≤ 20) = false from decide_eq_false g5)
            have q5 : decide ((20 : Int) < (n4 : Int)) = true := decide_eq_true (by omega)
            replace g5 : (20 : Int) < (n4 : Int) := by omega
            go_enter Try.func35, Try.ntmps35
            go_wp2_with fail
            dsimp only [List.append]
            refine wp_region_wk (fun w' => Mk0 (w.alloc (Obj.cells #[Value.int .i64 x0, Value.int .i64 x1, Value.int .i64 x2, Value.int .i64 x3, Value.slice a4 n4 c4, Value.slice a5 n5 c5, Value.int .i64 x6, Value.int .i64 x7, Value.slice a8 n8 c8] 83)) w' ∧ w'.cell? ⟨w.heap.size, 0, none⟩ = some (.int .i64 x0) ∧ w'.cell? ⟨w.heap.size, 1, none⟩ = some (.int .i64 x1) ∧ w'.cell? ⟨w.heap.size, 2, none⟩ = some (.int .i64 x2) ∧ w'.cell? ⟨w.heap.size, 3, none⟩ = some (.int .i64 x3) ∧ w'.cell? ⟨w.heap.size, 4, none⟩ = some (.slice a4 n4 c4) ∧ w'.cell? ⟨w.heap.size, 5, none⟩ = some (.slice a5 n5 c5) ∧ w'.cell? ⟨w.heap.size, 6, none⟩ = some (.int .i64 x6) ∧ w'.cell? ⟨w.heap.size, 7, none⟩ = some (.int .i64 x7) ∧ w'.cell? ⟨w.heap.size, 8, none⟩ = some (.slice a8 n8 c8)) (by kernel_rfl) (by kernel_rfl) (⟨Mk.drew1 _, u0, u1, u2, u3, u4, u5, u6, u7, u8⟩) ?_
            change Wk _ _ _ _ 67 0 _
            first | (refine Wk.skip (m := 66) (k := 0) rfl (by rfl) ?_) | (refine Wk.step (m := 66) (k := 0) (v := _) rfl (by rfl) (fun wv hS => by obtain ⟨s0, s1, s2, s3, s4, s5, s6, s7, s8, s9⟩ := hS; go_simp; try with_reducible rfl) ?_)
            try simp only [Act.put, List.getElem_toArray, List.getElem_cons_zero, List.setIfInBounds_toArray, List.set_cons_zero, List.set_cons_succ]
            first | (refine Wk.skip (m := 65) (k := 1) rfl (by rfl) ?_) | (refine Wk.step (m := 65) (k := 1) (v := _) rfl (by rfl) (fun wv hS => by obtain ⟨s0, s1, s2, s3, s4, s5, s6, s7, s8, s9⟩ := hS; go_simp; try with_reducible rfl) ?_)
            try simp only [Act.put, List.getElem_toArray, List.getElem_cons_succ, List.getElem_cons_zero, List.setIfInBounds_toArray, List.set_cons_zero, List.set_cons_succ]
            refine Wk.call (m := 64) (k := 2) (v := .bool true) _ _ rfl (by rfl) (fun wv hS => by obtain ⟨s0, s1, s2, s3, s4, s5, s6, s7, s8, s9⟩ := hS; go_simp; first | done | exact ⟨rfl, rfl⟩ | with_reducible rfl) (fun wv hS => ?_) ?_; · obtain ⟨s0, s1, s2, s3, s4, s5, s6, s7, s8, s9⟩ := hS; refine (specIn _ _ _ wv).mono ?_; rintro e w' ⟨he, rfl⟩; exact ⟨by rw [he, K1.out], s0, s1, s2, s3, s4, s5, s6, s7, s8, s9⟩
            try simp only [Act.put, List.getElem_toArray, List.getElem_cons_succ, List.getElem_cons_zero, List.setIfInBounds_toArray, List.set_cons_zero, List.set_cons_succ]
            first | (refine Wk.skip (m := 63) (k := 3) rfl (by rfl) ?_) | (refine Wk.step (m := 63) (k := 3) (v := _) rfl (by rfl) (fun wv hS => by obtain ⟨s0, s1, s2, s3, s4, s5, s6, s7, s8, s9⟩ := hS; go_simp; try with_reducible rfl) ?_)
            try simp only [Act.put, List.getElem_toArray, List.getElem_cons_succ, List.getElem_cons_zero, List.setIfInBounds_toArray, List.set_cons_zero, List.set_cons_succ]
            first | (refine Wk.skip (m := 62) (k := 4) rfl (by rfl) ?_) | (refine Wk.step (m := 62) (k := 4) (v := _) rfl (by rfl) (fun wv hS => by obtain ⟨s0, s1, s2, s3, s4, s5, s6, s7, s8, s9⟩ := hS; go_simp; try with_reducible rfl) ?_)
            try simp only [Act.put, List.getElem_toArray, List.getElem_cons_succ, List.getElem_cons_zero, List.setIfInBounds_toArray, List.set_cons_zero, List.set_cons_succ]
            first | (refine Wk.skip (m := 61) (k := 5) rfl (by rfl) ?_) | (refine Wk.step (m := 61) (k := 5) (v := _) rfl (by rfl) (fun wv hS => by obtain ⟨s0, s1, s2, s3, s4, s5, s6, s7, s8, s9⟩ := hS; go_simp; try with_reducible rfl) ?_)
            try simp only [Act.put, List.getElem_toArray, List.getElem_cons_succ, List.getElem_cons_zero, List.setIfInBounds_toArray, List.set_cons_zero, List.set_cons_succ]
            first | (refine Wk.skip (m := 60) (k := 6) rfl (by rfl) ?_) | (refine Wk.step (m := 60) (k := 6) (v := _) rfl (by rfl) (fun wv hS => by obtain ⟨s0, s1, s2, s3, s4, s5, s6, s7, s8, s9⟩ := hS; go_simp; try with_reducible rfl) ?_)
            try simp only [Act.put, List.getElem_toArray, List.getElem_cons_succ, List.getElem_cons_zero, List.setIfInBounds_toArray, List.set_cons_zero, List.set_cons_succ]
            refine Wk.call (m := 59) (k := 7) (v := .bool true) _ _ rfl (by rfl) (fun wv hS => by obtain ⟨s0, s1, s2, s3, s4, s5, s6, s7, s8, s9⟩ := hS; go_simp; first | done | exact ⟨rfl, rfl⟩ | with_reducible rfl) (fun wv hS => ?_) ?_; · obtain ⟨s0, s1, s2, s3, s4, s5, s6, s7, s8, s9⟩ := hS; refine (specIn _ _ _ wv).mono ?_; rintro e w' ⟨he, rfl⟩; exact ⟨by rw [he, K2.out], s0, s1, s2, s3, s4, s5, s6, s7, s8, s9⟩
            try simp only [Act.put, List.getElem_toArray, List.getElem_cons_succ, List.getElem_cons_zero, List.setIfInBounds_toArray, List.set_cons_zero, List.set_cons_succ]
            first | (refine Wk.skip (m := 58) (k := 8) rfl (by rfl) ?_) | (refine Wk.step (m := 58) (k := 8) (v := _) rfl (by rfl) (fun wv hS => by obtain ⟨s0, s1, s2, s3, s4, s5, s6, s7, s8, s9⟩ := hS; go_simp; try with_reducible rfl) ?_)
            try simp only [Act.put, List.getElem_toArray, List.getElem_cons_succ, List.getElem_cons_zero, List.setIfInBounds_toArray, List.set_cons_zero, List.set_cons_succ]
            first | (refine Wk.skip (m := 57) (k := 9) rfl (by rfl) ?_) | (refine Wk.step (m := 57) (k := 9) (v := _) rfl (by rfl) (fun wv hS => by obtain ⟨s0, s1, s2, s3, s4, s5, s6, s7, s8, s9⟩ := hS; go_simp; try with_reducible rfl) ?_)
            try simp only [Act.put, List.getElem_toArray, List.getElem_cons_succ, List.getElem_cons_zero, List.setIfInBounds_toArray, List.set_cons_zero, List.set_cons_succ]
            first | (refine Wk.skip (m := 56) (k := 10) rfl (by rfl) ?_) | (refine Wk.step (m := 56) (k := 10) (v := _) rfl (by rfl) (fun wv hS => by obtain ⟨s0, s1, s2, s3, s4, s5, s6, s7, s8, s9⟩ := hS; go_simp; try with_reducible rfl) ?_)
            try simp only [Act.put, List.getElem_toArray, List.getElem_cons_succ, List.getElem_cons_zero, List.setIfInBounds_toArray, List.set_cons_zero, List.set_cons_succ]
            first | (refine Wk.skip (m := 55) (k := 11) rfl (by rfl) ?_) | (refine Wk.step (m := 55) (k := 11) (v := _) rfl (by rfl) (fun wv hS => by obtain ⟨s0, s1, s2, s3, s4, s5, s6, s7, s8, s9⟩ := hS; go_simp; try with_reducible rfl) ?_)
            try simp only [Act.put, List.getElem_toArray, List.getElem_cons_succ, List.getElem_cons_zero, List.setIfInBounds_toArray, List.set_cons_zero, List.set_cons_succ]
            first | (refine Wk.skip (m := 54) (k := 12) rfl (by rfl) ?_) | (refine Wk.step (m := 54) (k := 12) (v := _) rfl (by rfl) (fun wv hS => by obtain ⟨s0, s1, s2, s3, s4, s5, s6, s7, s8, s9⟩ := hS; go_simp; try with_reducible rfl) ?_)
            try simp only [Act.put, List.getElem_toArray, List.getElem_cons_succ, List.getElem_cons_zero, List.setIfInBounds_toArray, List.set_cons_zero, List.set_cons_succ]
            first | (refine Wk.skip (m := 53) (k := 13) rfl (by rfl) ?_) | (refine Wk.step (m := 53) (k := 13) (v := _) rfl (by rfl) (fun wv hS => by obtain ⟨s0, s1, s2, s3, s4, s5, s6, s7, s8, s9⟩ := hS; go_simp; try with_reducible rfl) ?_)
            try simp only [Act.put, List.getElem_toArray, List.getElem_cons_succ, List.getElem_cons_zero, List.setIfInBounds_toArray, List.set_cons_zero, List.set_cons_succ]
            first | (refine Wk.skip (m := 52) (k := 14) rfl (by rfl) ?_) | (refine Wk.step (m := 52) (k := 14) (v := _) rfl (by rfl) (fun wv hS => by obtain ⟨s0, s1, s2, s3, s4, s5, s6, s7, s8, s9⟩ := hS; go_simp; try with_reducible rfl) ?_)
            try simp only [Act.put, List.getElem_toArray, List.getElem_cons_succ, List.getElem_cons_zero, List.setIfInBounds_toArray, List.set_cons_zero, List.set_cons_succ]
            first | (refine Wk.skip (m := 51) (k := 15) rfl (by rfl) ?_) | (refine Wk.step (m := 51) (k := 15) (v := _) rfl (by rfl) (fun wv hS => by obtain ⟨s0, s1, s2, s3, s4, s5, s6, s7, s8, s9⟩ := hS; go_simp; try with_reducible rfl) ?_)
            try simp only [Act.put, List.getElem_toArray, List.getElem_cons_succ, List.getElem_cons_zero, List.setIfInBounds_toArray, List.set_cons_zero, List.set_cons_succ]
            first | (refine Wk.skip (m := 50) (k := 16) rfl (by rfl) ?_) | (refine Wk.step (m := 50) (k := 16) (v := _) rfl (by rfl) (fun wv hS => by obtain ⟨s0, s1, s2, s3, s4, s5, s6, s7, s8, s9⟩ := hS; go_simp; try with_reducible rfl) ?_)
            try simp only [Act.put, List.getElem_toArray, List.getElem_cons_succ, List.getElem_cons_zero, List.setIfInBounds_toArray, List.set_cons_zero, List.set_cons_succ]
            first | (refine Wk.skip (m := 49) (k := 17) rfl (by rfl) ?_) | (refine Wk.step (m := 49) (k := 17) (v := _) rfl (by rfl) (fun wv hS => by obtain ⟨s0, s1, s2, s3, s4, s5, s6, s7, s8, s9⟩ := hS; go_simp; try with_reducible rfl) ?_)
            try simp only [Act.put, List.getElem_toArray, List.getElem_cons_succ, List.getElem_cons_zero, List.setIfInBounds_toArray, List.set_cons_zero, List.set_cons_succ]
            first | (refine Wk.skip (m := 48) (k := 18) rfl (by rfl) ?_) | (refine Wk.step (m := 48) (k := 18) (v := _) rfl (by rfl) (fun wv hS => by obtain ⟨s0, s1, s2, s3, s4, s5, s6, s7, s8, s9⟩ := hS; go_simp; try with_reducible rfl) ?_)
            try simp only [Act.put, List.getElem_toArray, List.getElem_cons_succ, List.getElem_cons_zero, List.setIfInBounds_toArray, List.set_cons_zero, List.set_cons_succ]
            first | (refine Wk.skip (m := 47) (k := 19) rfl (by rfl) ?_) | (refine Wk.step (m := 47) (k := 19) (v := _) rfl (by rfl) (fun wv hS => by obtain ⟨s0, s1, s2, s3, s4, s5, s6, s7, s8, s9⟩ := hS; go_simp; try with_reducible rfl) ?_)
            try simp only [Act.put, List.getElem_toArray, List.getElem_cons_succ, List.getElem_cons_zero, List.setIfInBounds_toArray, List.set_cons_zero, List.set_cons_succ]
            refine Wk.call (m := 46) (k := 20) (v := .bool true) _ _ rfl (by rfl) (fun wv hS => by obtain ⟨s0, s1, s2, s3, s4, s5, s6, s7, s8, s9⟩ := hS; go_simp; first | done | exact ⟨rfl, rfl⟩ | with_reducible rfl) (fun wv hS => ?_) ?_; · obtain ⟨s0, s1, s2, s3, s4, s5, s6, s7, s8, s9⟩ := hS; refine (specIn _ _ _ wv).mono ?_; rintro e w' ⟨he, rfl⟩; exact ⟨by rw [he, K4.out], s0, s1, s2, s3, s4, s5, s6, s7, s8, s9⟩
            try simp only [Act.put, List.getElem_toArray, List.getElem_cons_succ, List.getElem_cons_zero, List.setIfInBounds_toArray, List.set_cons_zero, List.set_cons_succ]
            first | (refine Wk.skip (m := 45) (k := 21) rfl (by rfl) ?_) | (refine Wk.step (m := 45) (k := 21) (v := _) rfl (by rfl) (fun wv hS => by obtain ⟨s0, s1, s2, s3, s4, s5, s6, s7, s8, s9⟩ := hS; go_simp; try with_reducible rfl) ?_)
            try simp only [Act.put, List.getElem_toArray, List.getElem_cons_succ, List.getElem_cons_zero, List.setIfInBounds_toArray, List.set_cons_zero, List.set_cons_succ]
            first | (refine Wk.skip (m := 44) (k := 22) rfl (by rfl) ?_) | (refine Wk.step (m := 44) (k := 22) (v := _) rfl (by rfl) (fun wv hS => by obtain ⟨s0, s1, s2, s3, s4, s5, s6, s7, s8, s9⟩ := hS; go_simp; try with_reducible rfl) ?_)
            try simp only [Act.put, List.getElem_toArray, List.getElem_cons_succ, List.getElem_cons_zero, List.setIfInBounds_toArray, List.set_cons_zero, List.set_cons_succ]
            first | (refine Wk.skip (m := 43) (k := 23) rfl (by rfl) ?_) | (refine Wk.step (m := 43) (k := 23) (v := _) rfl (by rfl) (fun wv hS => by obtain ⟨s0, s1, s2, s3, s4, s5, s6, s7, s8, s9⟩ := hS; go_simp; try with_reducible rfl) ?_)
            try simp only [Act.put, List.getElem_toArray, List.getElem_cons_succ, List.getElem_cons_zero, List.setIfInBounds_toArray, List.set_cons_zero, List.set_cons_succ]
            first | (refine Wk.skip (m := 42) (k := 24) rfl (by rfl) ?_) | (refine Wk.step (m := 42) (k := 24) (v := _) rfl (by rfl) (fun wv hS => by obtain ⟨s0, s1, s2, s3, s4, s5, s6, s7, s8, s9⟩ := hS; go_simp; try with_reducible rfl) ?_)
            try simp only [Act.put, List.getElem_toArray, List.getElem_cons_succ, List.getElem_cons_zero, List.setIfInBounds_toArray, List.set_cons_zero, List.set_cons_succ]
            first | (refine Wk.skip (m := 41) (k := 25) rfl (by rfl) ?_) | (refine Wk.step (m := 41) (k := 25) (v := _) rfl (by rfl) (fun wv hS => by obtain ⟨s0, s1, s2, s3, s4, s5, s6, s7, s8, s9⟩ := hS; go_simp; try with_reducible rfl) ?_)
            try simp only [Act.put, List.getElem_toArray, List.getElem_cons_succ, List.getElem_cons_zero, List.setIfInBounds_toArray, List.set_cons_zero, List.set_cons_succ]
            first | (refine Wk.skip (m := 40) (k := 26) rfl (by rfl) ?_) | (refine Wk.step (m := 40) (k := 26) (v := _) rfl (by rfl) (fun wv hS => by obtain ⟨s0, s1, s2, s3, s4, s5, s6, s7, s8, s9⟩ := hS; go_simp; try with_reducible rfl) ?_)
            try simp only [Act.put, List.getElem_toArray, List.getElem_cons_succ, List.getElem_cons_zero, List.setIfInBounds_toArray, List.set_cons_zero, List.set_cons_succ]
            first | (refine Wk.skip (m := 39) (k := 27) rfl (by rfl) ?_) | (refine Wk.step (m := 39) (k := 27) (v := _) rfl (by rfl) (fun wv hS => by obtain ⟨s0, s1, s2, s3, s4, s5, s6, s7, s8, s9⟩ := hS; go_simp; try with_reducible rfl) ?_)
            try simp only [Act.put, List.getElem_toArray, List.getElem_cons_succ, List.getElem_cons_zero, List.setIfInBounds_toArray, List.set_cons_zero, List.set_cons_succ]
            first | (refine Wk.skip (m := 38) (k := 28) rfl (by rfl) ?_) | (refine Wk.step (m := 38) (k := 28) (v := _) rfl (by rfl) (fun wv hS => by obtain ⟨s0, s1, s2, s3, s4, s5, s6, s7, s8, s9⟩ := hS; go_simp; try with_reducible rfl) ?_)
            try simp only [Act.put, List.getElem_toArray, List.getElem_cons_succ, List.getElem_cons_zero, List.setIfInBounds_toArray, List.set_cons_zero, List.set_cons_succ]
            first | (refine Wk.skip (m := 37) (k := 29) rfl (by rfl) ?_) | (refine Wk.step (m := 37) (k := 29) (v := _) rfl (by rfl) (fun wv hS => by obtain ⟨s0, s1, s2, s3, s4, s5, s6, s7, s8, s9⟩ := hS; go_simp; try with_reducible rfl) ?_)
            try simp only [Act.put, List.getElem_toArray, List.getElem_cons_succ, List.getElem_cons_zero, List.setIfInBounds_toArray, List.set_cons_zero, List.set_cons_succ]
            first | (refine Wk.skip (m := 36) (k := 30) rfl (by rfl) ?_) | (refine Wk.step (m := 36) (k := 30) (v := _) rfl (by rfl) (fun wv hS => by obtain ⟨s0, s1, s2, s3, s4, s5, s6, s7, s8, s9⟩ := hS; go_simp; try with_reducible rfl) ?_)
            try simp only [Act.put, List.getElem_toArray, List.getElem_cons_succ, List.getElem_cons_zero, List.setIfInBounds_toArray, List.set_cons_zero, List.set_cons_succ]
            first | (refine Wk.skip (m := 35) (k := 31) rfl (by rfl) ?_) | (refine Wk.step (m := 35) (k := 31) (v := _) rfl (by rfl) (fun wv hS => by obtain ⟨s0, s1, s2, s3, s4, s5, s6, s7, s8, s9⟩ := hS; go_simp; try with_reducible rfl) ?_)
            try simp only [Act.put, List.getElem_toArray, List.getElem_cons_succ, List.getElem_cons_zero, List.setIfInBounds_toArray, List.set_cons_zero, List.set_cons_succ]
            first | (refine Wk.skip (m := 34) (k := 32) rfl (by rfl) ?_) | (refine Wk.step (m := 34) (k := 32) (v := _) rfl (by rfl) (fun wv hS => by obtain ⟨s0, s1, s2, s3, s4, s5, s6, s7, s8, s9⟩ := hS; go_simp; try with_reducible rfl) ?_)
            try simp only [Act.put, List.getElem_toArray, List.getElem_cons_succ, List.getElem_cons_zero, List.setIfInBounds_toArray, List.set_cons_zero, List.set_cons_succ]
            first | (refine Wk.skip (m := 33) (k := 33) rfl (by rfl) ?_) | (refine Wk.step (m := 33) (k := 33) (v := _) rfl (by rfl) (fun wv hS => by obtain ⟨s0, s1, s2, s3, s4, s5, s6, s7, s8, s9⟩ := hS; go_simp; try with_reducible rfl) ?_)
            try simp only [Act.put, List.getElem_toArray, List.getElem_cons_succ, List.getElem_cons_zero, List.setIfInBounds_toArray, List.set_cons_zero, List.set_cons_succ]
            first | (refine Wk.skip (m := 32) (k := 34) rfl (by rfl) ?_) | (refine Wk.step (m := 32) (k := 34) (v := _) rfl (by rfl) (fun wv hS => by obtain ⟨s0, s1, s2, s3, s4, s5, s6, s7, s8, s9⟩ := hS; go_simp; try with_reducible rfl) ?_)
            try simp only [Act.put, List.getElem_toArray, List.getElem_cons_succ, List.getElem_cons_zero, List.setIfInBounds_toArray, List.set_cons_zero, List.set_cons_succ]
            first | (refine Wk.skip (m := 31) (k := 35) rfl (by rfl) ?_) | (refine Wk.step (m := 31) (k := 35) (v := _) rfl (by rfl) (fun wv hS => by obtain ⟨s0, s1, s2, s3, s4, s5, s6, s7, s8, s9⟩ := hS; go_simp; try with_reducible rfl) ?_)
            try simp only [Act.put, List.getElem_toArray, List.getElem_cons_succ, List.getElem_cons_zero, List.setIfInBounds_toArray, List.set_cons_zero, List.set_cons_succ]
            first | (refine Wk.skip (m := 30) (k := 36) rfl (by rfl) ?_) | (refine Wk.step (m := 30) (k := 36) (v := _) rfl (by rfl) (fun wv hS => by obtain ⟨s0, s1, s2, s3, s4, s5, s6, s7, s8, s9⟩ := hS; go_simp; try with_reducible rfl) ?_)
            try simp only [Act.put, List.getElem_toArray, List.getElem_cons_succ, List.getElem_cons_zero, List.setIfInBounds_toArray, List.set_cons_zero, List.set_cons_succ]
            first | (refine Wk.skip (m := 29) (k := 37) rfl (by rfl) ?_) | (refine Wk.step (m := 29) (k := 37) (v := _) rfl (by rfl) (fun wv hS => by obtain ⟨s0, s1, s2, s3, s4, s5, s6, s7, s8, s9⟩ := hS; go_simp; try with_reducible rfl) ?_)
            try simp only [Act.put, List.getElem_toArray, List.getElem_cons_succ, List.getElem_cons_zero, List.setIfInBounds_toArray, List.set_cons_zero, List.set_cons_succ]
            first | (refine Wk.skip (m := 28) (k := 38) rfl (by rfl) ?_) | (refine Wk.step (m := 28) (k := 38) (v := _) rfl (by rfl) (fun wv hS => by obtain ⟨s0, s1, s2, s3, s4, s5, s6, s7, s8, s9⟩ := hS; go_simp; try with_reducible rfl) ?_)
            try simp only [Act.put, List.getElem_toArray, List.getElem_cons_succ, List.getElem_cons_zero, List.setIfInBounds_toArray, List.set_cons_zero, List.set_cons_succ]
            first | (refine Wk.skip (m := 27) (k := 39) rfl (by rfl) ?_) | (refine Wk.step (m := 27) (k := 39) (v := _) rfl (by rfl) (fun wv hS => by obtain ⟨s0, s1, s2, s3, s4, s5, s6, s7, s8, s9⟩ := hS; go_simp; try with_reducible rfl) ?_)
            try simp only [Act.put, List.getElem_toArray, List.getElem_cons_succ, List.getElem_cons_zero, List.setIfInBounds_toArray, List.set_cons_zero, List.set_cons_succ]
            first | (refine Wk.skip (m := 26) (k := 40) rfl (by rfl) ?_) | (refine Wk.step (m := 26) (k := 40) (v := _) rfl (by rfl) (fun wv hS => by obtain ⟨s0, s1, s2, s3, s4, s5, s6, s7, s8, s9⟩ := hS; go_simp; try with_reducible rfl) ?_)
            try simp only [Act.put, List.getElem_toArray, List.getElem_cons_succ, List.getElem_cons_zero, List.setIfInBounds_toArray, List.set_cons_zero, List.set_cons_succ]
            first | (refine Wk.skip (m := 25) (k := 41) rfl (by rfl) ?_) | (refine Wk.step (m := 25) (k := 41) (v := _) rfl (by rfl) (fun wv hS => by obtain ⟨s0, s1, s2, s3, s4, s5, s6, s7, s8, s9⟩ := hS; go_simp; try with_reducible rfl) ?_)
            try simp only [Act.put, List.getElem_toArray, List.getElem_cons_succ, List.getElem_cons_zero, List.setIfInBounds_toArray, List.set_cons_zero, List.set_cons_succ]
            first | (refine Wk.skip (m := 24) (k := 42) rfl (by rfl) ?_) | (refine Wk.step (m := 24) (k := 42) (v := _) rfl (by rfl) (fun wv hS => by obtain ⟨s0, s1, s2, s3, s4, s5, s6, s7, s8, s9⟩ := hS; go_simp; try with_reducible rfl) ?_)
            try simp only [Act.put, List.getElem_toArray, List.getElem_cons_succ, List.getElem_cons_zero, List.setIfInBounds_toArray, List.set_cons_zero, List.set_cons_succ]
            first | (refine Wk.skip (m := 23) (k := 43) rfl (by rfl) ?_) | (refine Wk.step (m := 23) (k := 43) (v := _) rfl (by rfl) (fun wv hS => by obtain ⟨s0, s1, s2, s3, s4, s5, s6, s7, s8, s9⟩ := hS; go_simp; try with_reducible rfl) ?_)
            try simp only [Act.put, List.getElem_toArray, List.getElem_cons_succ, List.getElem_cons_zero, List.setIfInBounds_toArray, List.set_cons_zero, List.set_cons_succ]
            first | (refine Wk.skip (m := 22) (k := 44) rfl (by rfl) ?_) | (refine Wk.step (m := 22) (k := 44) (v := _) rfl (by rfl) (fun wv hS => by obtain ⟨s0, s1, s2, s3, s4, s5, s6, s7, s8, s9⟩ := hS; go_simp; try with_reducible rfl) ?_)
            try simp only [Act.put, List.getElem_toArray, List.getElem_cons_succ, List.getElem_cons_zero, List.setIfInBounds_toArray, List.set_cons_zero, List.set_cons_succ]
            first | (refine Wk.skip (m := 21) (k := 45) rfl (by rfl) ?_) | (refine Wk.step (m := 21) (k := 45) (v := _) rfl (by rfl) (fun wv hS => by obtain ⟨s0, s1, s2, s3, s4, s5, s6, s7, s8, s9⟩ := hS; go_simp; try with_reducible rfl) ?_)
            try simp only [Act.put, List.getElem_toArray, List.getElem_cons_succ, List.getElem_cons_zero, List.setIfInBounds_toArray, List.set_cons_zero, List.set_cons_succ]
            first | (refine Wk.skip (m := 20) (k := 46) rfl (by rfl) ?_) | (refine Wk.step (m := 20) (k := 46) (v := _) rfl (by rfl) (fun wv hS => by obtain ⟨s0, s1, s2, s3, s4, s5, s6, s7, s8, s9⟩ := hS; go_simp; try with_reducible rfl) ?_)
            try simp only [Act.put, List.getElem_toArray, List.getElem_cons_succ, List.getElem_cons_zero, List.setIfInBounds_toArray, List.set_cons_zero, List.set_cons_succ]
            first | (refine Wk.skip (m := 19) (k := 47) rfl (by rfl) ?_) | (refine Wk.step (m := 19) (k := 47) (v := _) rfl (by rfl) (fun wv hS => by obtain ⟨s0, s1, s2, s3, s4, s5, s6, s7, s8, s9⟩ := hS; go_simp; try with_reducible rfl) ?_)
            try simp only [Act.put, List.getElem_toArray, List.getElem_cons_succ, List.getElem_cons_zero, List.setIfInBounds_toArray, List.set_cons_zero, List.set_cons_succ]
            first | (refine Wk.skip (m := 18) (k := 48) rfl (by rfl) ?_) | (refine Wk.step (m := 18) (k := 48) (v := _) rfl (by rfl) (fun wv hS => by obtain ⟨s0, s1, s2, s3, s4, s5, s6, s7, s8, s9⟩ := hS; go_simp; try with_reducible rfl) ?_)
            try simp only [Act.put, List.getElem_toArray, List.getElem_cons_succ, List.getElem_cons_zero, List.setIfInBounds_toArray, List.set_cons_zero, List.set_cons_succ]
            first | (refine Wk.skip (m := 17) (k := 49) rfl (by rfl) ?_) | (refine Wk.step (m := 17) (k := 49) (v := _) rfl (by rfl) (fun wv hS => by obtain ⟨s0, s1, s2, s3, s4, s5, s6, s7, s8, s9⟩ := hS; go_simp; try with_reducible rfl) ?_)
            try simp only [Act.put, List.getElem_toArray, List.getElem_cons_succ, List.getElem_cons_zero, List.setIfInBounds_toArray, List.set_cons_zero, List.set_cons_succ]
            first | (refine Wk.skip (m := 16) (k := 50) rfl (by rfl) ?_) | (refine Wk.step (m := 16) (k := 50) (v := _) rfl (by rfl) (fun wv hS => by obtain ⟨s0, s1, s2, s3, s4, s5, s6, s7, s8, s9⟩ := hS; go_simp; try with_reducible rfl) ?_)
            try simp only [Act.put, List.getElem_toArray, List.getElem_cons_succ, List.getElem_cons_zero, List.setIfInBounds_toArray, List.set_cons_zero, List.set_cons_succ]
            first | (refine Wk.skip (m := 15) (k := 51) rfl (by rfl) ?_) | (refine Wk.step (m := 15) (k := 51) (v := _) rfl (by rfl) (fun wv hS => by obtain ⟨s0, s1, s2, s3, s4, s5, s6, s7, s8, s9⟩ := hS; go_simp; try with_reducible rfl) ?_)
            try simp only [Act.put, List.getElem_toArray, List.getElem_cons_succ, List.getElem_cons_zero, List.setIfInBounds_toArray, List.set_cons_zero, List.set_cons_succ]
            first | (refine Wk.skip (m := 14) (k := 52) rfl (by rfl) ?_) | (refine Wk.step (m := 14) (k := 52) (v := _) rfl (by rfl) (fun wv hS => by obtain ⟨s0, s1, s2, s3, s4, s5, s6, s7, s8, s9⟩ := hS; go_simp; try with_reducible rfl) ?_)
            try simp only [Act.put, List.getElem_toArray, List.getElem_cons_succ, List.getElem_cons_zero, List.setIfInBounds_toArray, List.set_cons_zero, List.set_cons_succ]
            first | (refine Wk.skip (m := 13) (k := 53) rfl (by rfl) ?_) | (refine Wk.step (m := 13) (k := 53) (v := _) rfl (by rfl) (fun wv hS => by obtain ⟨s0, s1, s2, s3, s4, s5, s6, s7, s8, s9⟩ := hS; go_simp; try with_reducible rfl) ?_)
            try simp only [Act.put, List.getElem_toArray, List.getElem_cons_succ, List.getElem_cons_zero, List.setIfInBounds_toArray, List.set_cons_zero, List.set_cons_succ]
            first | (refine Wk.skip (m := 12) (k := 54) rfl (by rfl) ?_) | (refine Wk.step (m := 12) (k := 54) (v := _) rfl (by rfl) (fun wv hS => by obtain ⟨s0, s1, s2, s3, s4, s5, s6, s7, s8, s9⟩ := hS; go_simp; try with_reducible rfl) ?_)
            try simp only [Act.put, List.getElem_toArray, List.getElem_cons_succ, List.getElem_cons_zero, List.setIfInBounds_toArray, List.set_cons_zero, List.set_cons_succ]
            first | (refine Wk.skip (m := 11) (k := 55) rfl (by rfl) ?_) | (refine Wk.step (m := 11) (k := 55) (v := _) rfl (by rfl) (fun wv hS => by obtain ⟨s0, s1, s2, s3, s4, s5, s6, s7, s8, s9⟩ := hS; go_simp; try with_reducible rfl) ?_)
            try simp only [Act.put, List.getElem_toArray, List.getElem_cons_succ, List.getElem_cons_zero, List.setIfInBounds_toArray, List.set_cons_zero, List.set_cons_succ]
            first | (refine Wk.skip (m := 10) (k := 56) rfl (by rfl) ?_) | (refine Wk.step (m := 10) (k := 56) (v := _) rfl (by rfl) (fun wv hS => by obtain ⟨s0, s1, s2, s3, s4, s5, s6, s7, s8, s9⟩ := hS; go_simp; try with_reducible rfl) ?_)
            try simp only [Act.put, List.getElem_toArray, List.getElem_cons_succ, List.getElem_cons_zero, List.setIfInBounds_toArray, List.set_cons_zero, List.set_cons_succ]
            first | (refine Wk.skip (m := 9) (k := 57) rfl (by rfl) ?_) | (refine Wk.step (m := 9) (k := 57) (v := _) rfl (by rfl) (fun wv hS => by obtain ⟨s0, s1, s2, s3, s4, s5, s6, s7, s8, s9⟩ := hS; go_simp; try with_reducible rfl) ?_)
            try simp only [Act.put, List.getElem_toArray, List.getElem_cons_succ, List.getElem_cons_zero, List.setIfInBounds_toArray, List.set_cons_zero, List.set_cons_succ]
            first | (refine Wk.skip (m := 8) (k := 58) rfl (by rfl) ?_) | (refine Wk.step (m := 8) (k := 58) (v := _) rfl (by rfl) (fun wv hS => by obtain ⟨s0, s1, s2, s3, s4, s5, s6, s7, s8, s9⟩ := hS; go_simp; try with_reducible rfl) ?_)
            try simp only [Act.put, List.getElem_toArray, List.getElem_cons_succ, List.getElem_cons_zero, List.setIfInBounds_toArray, List.set_cons_zero, List.set_cons_succ]
            first | (refine Wk.skip (m := 7) (k := 59) rfl (by rfl) ?_) | (refine Wk.step (m := 7) (k := 59) (v := _) rfl (by rfl) (fun wv hS => by obtain ⟨s0, s1, s2, s3, s4, s5, s6, s7, s8, s9⟩ := hS; go_simp; try with_reducible rfl) ?_)
            try simp only [Act.put, List.getElem_toArray, List.getElem_cons_succ, List.getElem_cons_zero, List.setIfInBounds_toArray, List.set_cons_zero, List.set_cons_succ]
            first | (refine Wk.skip (m := 6) (k := 60) rfl (by rfl) ?_) | (refine Wk.step (m := 6) (k := 60) (v := _) rfl (by rfl) (fun wv hS => by obtain ⟨s0, s1, s2, s3, s4, s5, s6, s7, s8, s9⟩ := hS; go_simp; try with_reducible rfl) ?_)
            try simp only [Act.put, List.getElem_toArray, List.getElem_cons_succ, List.getElem_cons_zero, List.setIfInBounds_toArray, List.set_cons_zero, List.set_cons_succ]
            first | (refine Wk.skip (m := 5) (k := 61) rfl (by rfl) ?_) | (refine Wk.step (m := 5) (k := 61) (v := _) rfl (by rfl) (fun wv hS => by obtain ⟨s0, s1, s2, s3, s4, s5, s6, s7, s8, s9⟩ := hS; go_simp; try with_reducible rfl) ?_)
            try simp only [Act.put, List.getElem_toArray, List.getElem_cons_succ, List.getElem_cons_zero, List.setIfInBounds_toArray, List.set_cons_zero, List.set_cons_succ]
            first | (refine Wk.skip (m := 4) (k := 62) rfl (by rfl) ?_) | (refine Wk.step (m := 4) (k := 62) (v := _) rfl (by rfl) (fun wv hS => by obtain ⟨s0, s1, s2, s3, s4, s5, s6, s7, s8, s9⟩ := hS; go_simp; try with_reducible rfl) ?_)
            try simp only [Act.put, List.getElem_toArray, List.getElem_cons_succ, List.getElem_cons_zero, List.setIfInBounds_toArray, List.set_cons_zero, List.set_cons_succ]
            first | (refine Wk.skip (m := 3) (k := 63) rfl (by rfl) ?_) | (refine Wk.step (m := 3) (k := 63) (v := _) rfl (by rfl) (fun wv hS => by obtain ⟨s0, s1, s2, s3, s4, s5, s6, s7, s8, s9⟩ := hS; go_simp; try with_reducible rfl) ?_)
            try simp only [Act.put, List.getElem_toArray, List.getElem_cons_succ, List.getElem_cons_zero, List.setIfInBounds_toArray, List.set_cons_zero, List.set_cons_succ]
            first | (refine Wk.skip (m := 2) (k := 64) rfl (by rfl) ?_) | (refine Wk.step (m := 2) (k := 64) (v := _) rfl (by rfl) (fun wv hS => by obtain ⟨s0, s1, s2, s3, s4, s5, s6, s7, s8, s9⟩ := hS; go_simp; try with_reducible rfl) ?_)
            try simp only [Act.put, List.getElem_toArray, List.getElem_cons_succ, List.getElem_cons_zero, List.setIfInBounds_toArray, List.set_cons_zero, List.set_cons_succ]
            first | (refine Wk.skip (m := 1) (k := 65) rfl (by rfl) ?_) | (refine Wk.step (m := 1) (k := 65) (v := _) rfl (by rfl) (fun wv hS => by obtain ⟨s0, s1, s2, s3, s4, s5, s6, s7, s8, s9⟩ := hS; go_simp; try with_reducible rfl) ?_)
            try simp only [Act.put, List.getElem_toArray, List.getElem_cons_succ, List.getElem_cons_zero, List.setIfInBounds_toArray, List.set_cons_zero, List.set_cons_succ]
            first | (refine Wk.skip (m := 0) (k := 66) rfl (by rfl) ?_) | (refine Wk.step (m := 0) (k := 66) (v := _) rfl (by rfl) (fun wv hS => by obtain ⟨s0, s1, s2, s3, s4, s5, s6, s7, s8, s9⟩ := hS; go_simp; try with_reducible rfl) ?_)
            try simp only [Act.put, List.getElem_toArray, List.getElem_cons_succ, List.getElem_cons_zero, List.setIfInBounds_toArray, List.set_cons_zero, List.set_cons_succ]
            refine Wk.done fun wE hE => ?_
            clear u0 u1 u2 u3 u4 u5 u6 u7 u8
            obtain ⟨mE, u0, u1, u2, u3, u4, u5, u6, u7, u8⟩ := hE
            go_wp2_with fail
            go_ret
            exact ⟨retB (by unfold vFlB; simp [K5.out]), M0.trans mE⟩
      · have K3 := Lib.hid g3
        go_enter Try.func35, Try.ntmps35
        go_wp2_with fail
        dsimp only [List.append]
        refine wp_region_wk (fun w' => Mk0 (w.alloc (Obj.cells #[Value.int .i64 x0, Value.int .i64 x1, Value.int .i64 x2, Value.int .i64 x3, Value.slice a4 n4 c4, Value.slice a5 n5 c5, Value.int .i64 x6, Value.int .i64 x7, Value.slice a8 n8 c8] 83)) w' ∧ w'.cell? ⟨w.heap.size, 0, none⟩ = some (.int .i64 x0) ∧ w'.cell? ⟨w.heap.size, 1, none⟩ = some (.int .i64 x1) ∧ w'.cell? ⟨w.heap.size, 2, none⟩ = some (.int .i64 x2) ∧ w'.cell? ⟨w.heap.size, 3, none⟩ = some (.int .i64 x3) ∧ w'.cell? ⟨w.heap.size, 4, none⟩ = some (.slice a4 n4 c4) ∧ w'.cell? ⟨w.heap.size, 5, none⟩ = some (.slice a5 n5 c5) ∧ w'.cell? ⟨w.heap.size, 6, none⟩ = some (.int .i64 x6) ∧ w'.cell? ⟨w.heap.size, 7, none⟩ = some (.int .i64 x7) ∧ w'.cell? ⟨w.heap.size, 8, none⟩ = some (.slice a8 n8 c8)) (by kernel_rfl) (by kernel_rfl) (⟨Mk.drew1 _, u0, u1, u2, u3, u4, u5, u6, u7, u8⟩) ?_
        change Wk _ _ _ _ 67 0 _
        first | (refine Wk.skip (m := 66) (k := 0) rfl (by rfl) ?_) | (refine Wk.step (m := 66) (k := 0) (v := _) rfl (by rfl) (fun wv hS => by obtain ⟨s0, s1, s2, s3, s4, s5, s6, s7, s8, s9⟩ := hS; go_simp; try with_reducible rfl) ?_)
        try simp only [Act.put, List.getElem_toArray, List.getElem_cons_zero, List.setIfInBounds_toArray, List.set_cons_zero, List.set_cons_succ]
        first | (refine Wk.skip (m := 65) (k := 1) rfl (by rfl) ?_) | (refine Wk.step (m := 65) (k := 1) (v := _) rfl (by rfl) (fun wv hS => by obtain ⟨s0, s1, s2, s3, s4, s5, s6, s7, s8, s9⟩ := hS; go_simp; try with_reducible rfl) ?_)
        try simp only [Act.put, List.getElem_toArray, List.getElem_cons_succ, List.getElem_cons_zero, List.setIfInBounds_toArray, List.set_cons_zero, List.set_cons_succ]
        refine Wk.call (m := 64) (k := 2) (v := .bool true) _ _ rfl (by rfl) (fun wv hS => by obtain ⟨s0, s1, s2, s3, s4, s5, s6, s7, s8, s9⟩ := hS; go_simp; first | done | exact ⟨rfl, rfl⟩ | with_reducible rfl) (fun wv hS => ?_) ?_; · obtain ⟨s0, s1, s2, s3, s4, s5, s6, s7, s8, s9⟩ := hS; refine (specIn _ _ _ wv).mono ?_; rintro e w' ⟨he, rfl⟩; exact ⟨by rw [he, K1.out], s0, s1, s2, s3, s4, s5, s6, s7, s8, s9⟩
        try simp only [Act.put, List.getElem_toArray, List.getElem_cons_succ, List.getElem_cons_zero, List.setIfInBounds_toArray, List.set_cons_zero, List.set_cons_succ]
        first | (refine Wk.skip (m := 63) (k := 3) rfl (by rfl) ?_) | (refine Wk.step (m := 63) (k := 3) (v := _) rfl (by rfl) (fun wv hS => by obtain ⟨s0, s1, s2, s3, s4, s5, s6, s7, s8, s9⟩ := hS; go_simp; try with_reducible rfl) ?_)
        try simp only [Act.put, List.getElem_toArray, List.getElem_cons_succ, List.getElem_cons_zero, List.setIfInBounds_toArray, List.set_cons_zero, List.set_cons_succ]
        first | (refine Wk.skip (m := 62) (k := 4) rfl (by rfl) ?_) | (refine Wk.step (m := 62) (k := 4) (v := _) rfl (by rfl) (fun wv hS => by obtain ⟨s0, s1, s2, s3, s4, s5, s6, s7, s8, s9⟩ := hS; go_simp; try with_reducible rfl) ?_)
        try simp only [Act.put, List.getElem_toArray, List.getElem_cons_succ, List.getElem_cons_zero, List.setIfInBounds_toArray, List.set_cons_zero, List.set_cons_succ]
        first | (refine Wk.skip (m := 61) (k := 5) rfl (by rfl) ?_) | (refine Wk.step (m := 61) (k := 5) (v := _) rfl (by rfl) (fun wv hS => by obtain ⟨s0, s1, s2, s3, s4, s5, s6, s7, s8, s9⟩ := hS; go_simp; try with_reducible rfl) ?_)
        try simp only [Act.put, List.getElem_toArray, List.getElem_cons_succ, List.getElem_cons_zero, List.setIfInBounds_toArray, List.set_cons_zero, List.set_cons_succ]
        first | (refine Wk.skip (m := 60) (k := 6) rfl (by rfl) ?_) | (refine Wk.step (m := 60) (k := 6) (v := _) rfl (by rfl) (fun wv hS => by obtain ⟨s0, s1, s2, s3, s4, s5, s6, s7, s8, s9⟩ := hS; go_simp; try with_reducible rfl) ?_)
        try simp only [Act.put, List.getElem_toArray, List.getElem_cons_succ, List.getElem_cons_zero, List.setIfInBounds_toArray, List.set_cons_zero, List.set_cons_succ]
        refine Wk.call (m := 59) (k := 7) (v := .bool true) _ _ rfl (by rfl) (fun wv hS => by obtain ⟨s0, s1, s2, s3, s4, s5, s6, s7, s8, s9⟩ := hS; go_simp; first | done | exact ⟨rfl, rfl⟩ | with_reducible rfl) (fun wv hS => ?_) ?_; · obtain ⟨s0, s1, s2, s3, s4, s5, s6, s7, s8, s9⟩ := hS; refine (specIn _ _ _ wv).mono ?_; rintro e w' ⟨he, rfl⟩; exact ⟨by rw [he, K2.out], s0, s1, s2, s3, s4, s5, s6, s7, s8, s9⟩
        try simp only [Act.put, List.getElem_toArray, List.getElem_cons_succ, List.getElem_cons_zero, List.setIfInBounds_toArray, List.set_cons_zero, List.set_cons_succ]
        first | (refine Wk.skip (m := 58) (k := 8) rfl (by rfl) ?_) | (refine Wk.step (m := 58) (k := 8) (v := _) rfl (by rfl) (fun wv hS => by obtain ⟨s0, s1, s2, s3, s4, s5, s6, s7, s8, s9⟩ := hS; go_simp; try with_reducible rfl) ?_)
        try simp only [Act.put, List.getElem_toArray, List.getElem_cons_succ, List.getElem_cons_zero, List.setIfInBounds_toArray, List.set_cons_zero, List.set_cons_succ]
        first | (refine Wk.skip (m := 57) (k := 9) rfl (by rfl) ?_) | (refine Wk.step (m := 57) (k := 9) (v := _) rfl (by rfl) (fun wv hS => by obtain ⟨s0, s1, s2, s3, s4, s5, s6, s7, s8, s9⟩ := hS; go_simp; try with_reducible rfl) ?_)
        try simp only [Act.put, List.getElem_toArray, List.getElem_cons_succ, List.getElem_cons_zero, List.setIfInBounds_toArray, List.set_cons_zero, List.set_cons_succ]
        first | (refine Wk.skip (m := 56) (k := 10) rfl (by rfl) ?_) | (refine Wk.step (m := 56) (k := 10) (v := _) rfl (by rfl) (fun wv hS => by obtain ⟨s0, s1, s2, s3, s4, s5, s6, s7, s8, s9⟩ := hS; go_simp; try with_reducible rfl) ?_)
        try simp only [Act.put, List.getElem_toArray, List.getElem_cons_succ, List.getElem_cons_zero, List.setIfInBounds_toArray, List.set_cons_zero, List.set_cons_succ]
        first | (refine Wk.skip (m := 55) (k := 11) rfl (by rfl) ?_) | (refine Wk.step (m := 55) (k := 11) (v := _) rfl (by rfl) (fun wv hS => by obtain ⟨s0, s1, s2, s3, s4, s5, s6, s7, s8, s9⟩ := hS; go_simp; try with_reducible rfl) ?_)
        try simp only [Act.put, List.getElem_toArray, List.getElem_cons_succ, List.getElem_cons_zero, List.setIfInBounds_toArray, List.set_cons_zero, List.set_cons_succ]
        first | (refine Wk.skip (m := 54) (k := 12) rfl (by rfl) ?_) | (refine Wk.step (m := 54) (k := 12) (v := _) rfl (by rfl) (fun wv hS => by obtain ⟨s0, s1, s2, s3, s4, s5, s6, s7, s8, s9⟩ := hS; go_simp; try with_reducible rfl) ?_)
        try simp only [Act.put, List.getElem_toArray, List.getElem_cons_succ, List.getElem_cons_zero, List.setIfInBounds_toArray, List.set_cons_zero, List.set_cons_succ]
        first | (refine Wk.skip (m := 53) (k := 13) rfl (by rfl) ?_) | (refine Wk.step (m := 53) (k := 13) (v := _) rfl (by rfl) (fun wv hS => by obtain ⟨s0, s1, s2, s3, s4, s5, s6, s7, s8, s9⟩ := hS; go_simp; try with_reducible rfl) ?_)
        try simp only [Act.put, List.getElem_toArray, List.getElem_cons_succ, List.getElem_cons_zero, List.setIfInBounds_toArray, List.set_cons_zero, List.set_cons_succ]
        first | (refine Wk.skip (m := 52) (k := 14) rfl (by rfl) ?_) | (refine Wk.step (m := 52) (k := 14) (v := _) rfl (by rfl) (fun wv hS => by obtain ⟨s0, s1, s2, s3, s4, s5, s6, s7, s8, s9⟩ := hS; go_simp; try with_reducible rfl) ?_)
        try simp only [Act.put, List.getElem_toArray, List.getElem_cons_succ, List.getElem_cons_zero, List.setIfInBounds_toArray, List.set_cons_zero, List.set_cons_succ]
        first | (refine Wk.skip (m := 51) (k := 15) rfl (by rfl) ?_) | (refine Wk.step (m := 51) (k := 15) (v := _) rfl (by rfl) (fun wv hS => by obtain ⟨s0, s1, s2, s3, s4, s5, s6, s7, s8, s9⟩ := hS; go_simp; try with_reducible rfl) ?_)
        try simp only [Act.put, List.getElem_toArray, List.getElem_cons_succ, List.getElem_cons_zero, List.setIfInBounds_toArray, List.set_cons_zero, List.set_cons_succ]
        first | (refine Wk.skip (m := 50) (k := 16) rfl (by rfl) ?_) | (refine Wk.step (m := 50) (k := 16) (v := _) rfl (by rfl) (fun wv hS => by obtain ⟨s0, s1, s2, s3, s4, s5, s6, s7, s8, s9⟩ := hS; go_simp; try with_reducible rfl) ?_)
        try simp only [Act.put, List.getElem_toArray, List.getElem_cons_succ, List.getElem_cons_zero, List.setIfInBounds_toArray, List.set_cons_zero, List.set_cons_succ]
        first | (refine Wk.skip (m := 49) (k := 17) rfl (by rfl) ?_) | (refine Wk.step (m := 49) (k := 17) (v := _) rfl (by rfl) (fun wv hS => by obtain ⟨s0, s1, s2, s3, s4, s5, s6, s7, s8, s9⟩ := hS; go_simp; try with_reducible rfl) ?_)
        try simp only [Act.put, List.getElem_toArray, List.getElem_cons_succ, List.getElem_cons_zero, List.setIfInBounds_toArray, List.set_cons_zero, List.set_cons_succ]
        first | (refine Wk.skip (m := 48) (k := 18) rfl (by rfl) ?_) | (refine Wk.step (m := 48) (k := 18) (v := _) rfl (by rfl) (fun wv hS => by obtain ⟨s0, s1, s2, s3, s4, s5, s6, s7, s8, s9⟩ := hS; go_simp; try with_reducible rfl) ?_)
        try simp only [Act.put, List.getElem_toArray, List.getElem_cons_succ, List.getElem_cons_zero, List.setIfInBounds_toArray, List.set_cons_zero, List.set_cons_succ]
        first | (refine Wk.skip (m := 47) (k := 19) rfl (by rfl) ?_) | (refine Wk.step (m := 47) (k := 19) (v := _) rfl (by rfl) (fun wv hS => by obtain ⟨s0, s1, s2, s3, s4, s5, s6, s7, s8, s9⟩ := hS; go_simp; try with_reducible rfl) ?_)
        try simp only [Act.put, List.getElem_toArray, List.getElem_cons_succ, List.getElem_cons_zero, List.setIfInBounds_toArray, List.set_cons_zero, List.set_cons_succ]
        first | (refine Wk.skip (m := 46) (k := 20) rfl (by rfl) ?_) | (refine Wk.step (m := 46) (k := 20) (v := _) rfl (by rfl) (fun wv hS => by obtain ⟨s0, s1, s2, s3, s4, s5, s6, s7, s8, s9⟩ := hS; go_simp; try with_reducible rfl) ?_)
        try simp only [Act.put, List.getElem_toArray, List.getElem_cons_succ, List.getElem_cons_zero, List.setIfInBounds_toArray, List.set_cons_zero, List.set_cons_succ]
        first | (refine Wk.skip (m := 45) (k := 21) rfl (by rfl) ?_) | (refine Wk.step (m := 45) (k := 21) (v := _) rfl (by rfl) (fun wv hS => by obtain ⟨s0, s1, s2, s3, s4, s5, s6, s7, s8, s9⟩ := hS; go_simp; try with_reducible rfl) ?_)
        try simp only [Act.put, List.getElem_toArray, List.getElem_cons_succ, List.getElem_cons_zero, List.setIfInBounds_toArray, List.set_cons_zero, List.set_cons_succ]
        first | (refine Wk.skip (m := 44) (k := 22) rfl (by rfl) ?_) | (refine Wk.step (m := 44) (k := 22) (v := _) rfl (by rfl) (fun wv hS => by obtain ⟨s0, s1, s2, s3, s4, s5, s6, s7, s8, s9⟩ := hS; go_simp; try with_reducible rfl) ?_)
        try simp only [Act.put, List.getElem_toArray, List.getElem_cons_succ, List.getElem_cons_zero, List.setIfInBounds_toArray, List.set_cons_zero, List.set_cons_succ]
        first | (refine Wk.skip (m := 43) (k := 23) rfl (by rfl) ?_) | (refine Wk.step (m := 43) (k := 23) (v := _) rfl (by rfl) (fun wv hS => by obtain ⟨s0, s1, s2, s3, s4, s5, s6, s7, s8, s9⟩ := hS; go_simp; try with_reducible rfl) ?_)
        try simp only [Act.put, List.getElem_toArray, List.getElem_cons_succ, List.getElem_cons_zero, List.setIfInBounds_toArray, List.set_cons_zero, List.set_cons_succ]
        first | (refine Wk.skip (m := 42) (k := 24) rfl (by rfl) ?_) | (refine Wk.step (m := 42) (k := 24) (v := _) rfl (by rfl) (fun wv hS => by obtain ⟨s0, s1, s2, s3, s4, s5, s6, s7, s8, s9⟩ := hS; go_simp; try with_reducible rfl) ?_)
        try simp only [Act.put, List.getElem_toArray, List.getElem_cons_succ, List.getElem_cons_zero, List.setIfInBounds_toArray, List.set_cons_zero, List.set_cons_succ]
        first | (refine Wk.skip (m := 41) (k := 25) rfl (by rfl) ?_) | (refine Wk.step (m := 41) (k := 25) (v := _) rfl (by rfl) (fun wv hS => by obtain ⟨s0, s1, s2, s3, s4, s5, s6, s7, s8, s9⟩ := hS; go_simp; try with_reducible rfl) ?_)
        try simp only [Act.put, List.getElem_toArray, List.getElem_cons_succ, List.getElem_cons_zero, List.setIfInBounds_toArray, List.set_cons_zero, List.set_cons_succ]
        first | (refine Wk.skip (m := 40) (k := 26) rfl (by rfl) ?_) | (refine Wk.step (m := 40) (k := 26) (v := _) rfl (by rfl) (fun wv hS => by obtain ⟨s0, s1, s2, s3, s4, s5, s6, s7, s8, s9⟩ := hS; go_simp; try with_reducible rfl) ?_)
        try simp only [Act.put, List.getElem_toArray, List.getElem_cons_succ, List.getElem_cons_zero, List.setIfInBounds_toArray, List.set_cons_zero, List.set_cons_succ]
        first | (refine Wk.skip (m := 39) (k := 27) rfl (by rfl) ?_) | (refine Wk.step (m := 39) (k := 27) (v := _) rfl (by rfl) (fun wv hS => by obtain ⟨s0, s1, s2, s3, s4, s5, s6, s7, s8, s9⟩ := hS; go_simp; try with_reducible rfl) ?_)
        try simp only [Act.put, List.getElem_toArray, List.getElem_cons_succ, List.getElem_cons_zero, List.setIfInBounds_toArray, List.set_cons_zero, List.set_cons_succ]
        first | (refine Wk.skip (m := 38) (k := 28) rfl (by rfl) ?_) | (refine Wk.step (m := 38) (k := 28) (v := _) rfl (by rfl) (fun wv hS => by obtain ⟨s0, s1, s2, s3, s4, s5, s6, s7, s8, s9⟩ := hS; go_simp; try with_reducible rfl) ?_)
        try simp only [Act.put, List.getElem_toArray, List.getElem_cons_succ, List.getElem_cons_zero, List.setIfInBounds_toArray, List.set_cons_zero, List.set_cons_succ]
        first | (refine Wk.skip (m := 37) (k := 29) rfl (by rfl) ?_) | (refine Wk.step (m := 37) (k := 29) (v := _) rfl (by rfl) (fun wv hS => by obtain ⟨s0, s1, s2, s3, s4, s5, s6, s7, s8, s9⟩ := hS; go_simp; try with_reducible rfl) ?_)
        try simp only [Act.put, List.getElem_toArray, List.getElem_cons_succ, List.getElem_cons_zero, List.setIfInBounds_toArray, List.set_cons_zero, List.set_cons_succ]
        first | (refine Wk.skip (m := 36) (k := 30) rfl (by rfl) ?_) | (refine Wk.step (m := 36) (k := 30) (v := _) rfl (by rfl) (fun wv hS => by obtain ⟨s0, s1, s2, s3, s4, s5, s6, s7, s8, s9⟩ := hS; go_simp; try with_reducible rfl) ?_)
        try simp only [Act.put, List.getElem_toArray, List.getElem_cons_succ, List.getElem_cons_zero, List.setIfInBounds_toArray, List.set_cons_zero, List.set_cons_succ]
        first | (refine Wk.skip (m := 35) (k := 31) rfl (by rfl) ?_) | (refine Wk.step (m := 35) (k := 31) (v := _) rfl (by rfl) (fun wv hS => by obtain ⟨s0, s1, s2, s3, s4, s5, s6, s7, s8, s9⟩ := hS; go_simp; try with_reducible rfl) ?_)
        try simp only [Act.put, List.getElem_toArray, List.getElem_cons_succ, List.getElem_cons_zero, List.setIfInBounds_toArray, List.set_cons_zero, List.set_cons_succ]
        first | (refine Wk.skip (m := 34) (k := 32) rfl (by rfl) ?_) | (refine Wk.step (m := 34) (k := 32) (v := _) rfl (by rfl) (fun wv hS => by obtain ⟨s0, s1, s2, s3, s4, s5, s6, s7, s8, s9⟩ := hS; go_simp; try with_reducible rfl) ?_)
        try simp only [Act.put, List.getElem_toArray, List.getElem_cons_succ, List.getElem_cons_zero, List.setIfInBounds_toArray, List.set_cons_zero, List.set_cons_succ]
        first | (refine Wk.skip (m := 33) (k := 33) rfl (by rfl) ?_) | (refine Wk.step (m := 33) (k := 33) (v := _) rfl (by rfl) (fun wv hS => by obtain ⟨s0, s1, s2, s3, s4, s5, s6, s7, s8, s9⟩ := hS; go_simp; try with_reducible rfl) ?_)
        try simp only [Act.put, List.getElem_toArray, List.getElem_cons_succ, List.getElem_cons_zero, List.setIfInBounds_toArray, List.set_cons_zero, List.set_cons_succ]
        first | (refine Wk.skip (m := 32) (k := 34) rfl (by rfl) ?_) | (refine Wk.step (m := 32) (k := 34) (v := _) rfl (by rfl) (fun wv hS => by obtain ⟨s0, s1, s2, s3, s4, s5, s6, s7, s8, s9⟩ := hS; go_simp; try with_reducible rfl) ?_)
        try simp only [Act.put, List.getElem_toArray, List.getElem_cons_succ, List.getElem_cons_zero, List.setIfInBounds_toArray, List.set_cons_zero, List.set_cons_succ]
        first | (refine Wk.skip (m := 31) (k := 35) rfl (by rfl) ?_) | (refine Wk.step (m := 31) (k := 35) (v := _) rfl (by rfl) (fun wv hS => by obtain ⟨s0, s1, s2, s3, s4, s5, s6, s7, s8, s9⟩ := hS; go_simp; try with_reducible rfl) ?_)
        try simp only [Act.put, List.getElem_toArray, List.getElem_cons_succ, List.getElem_cons_zero, List.setIfInBounds_toArray, List.set_cons_zero, List.set_cons_succ]
        first | (refine Wk.skip (m := 30) (k := 36) rfl (by rfl) ?_) | (refine Wk.step (m := 30) (k := 36) (v := _) rfl (by rfl) (fun wv hS => by obtain ⟨s0, s1, s2, s3, s4, s5, s6, s7, s8, s9⟩ := hS; go_simp; try with_reducible rfl) ?_)
        try simp only [Act.put, List.getElem_toArray, List.getElem_cons_succ, List.getElem_cons_zero, List.setIfInBounds_toArray, List.set_cons_zero, List.set_cons_succ]
        first | (refine Wk.skip (m := 29) (k := 37) rfl (by rfl) ?_) | (refine Wk.step (m := 29) (k := 37) (v := _) rfl (by rfl) (fun wv hS => by obtain ⟨s0, s1, s2, s3, s4, s5, s6, s7, s8, s9⟩ := hS; go_simp; try with_reducible rfl) ?_)
        try simp only [Act.put, List.getElem_toArray, List.getElem_cons_succ, List.getElem_cons_zero, List.setIfInBounds_toArray, List.set_cons_zero, List.set_cons_succ]
        first | (refine Wk.skip (m := 28) (k := 38) rfl (by rfl) ?_) | (refine Wk.step (m := 28) (k := 38) (v := _) rfl (by rfl) (fun wv hS => by obtain ⟨s0, s1, s2, s3, s4, s5, s6, s7, s8, s9⟩ := hS; go_simp; try with_reducible rfl) ?_)
        try simp only [Act.put, List.getElem_toArray, List.getElem_cons_succ, List.getElem_cons_zero, List.setIfInBounds_toArray, List.set_cons_zero, List.set_cons_succ]
        first | (refine Wk.skip (m := 27) (k := 39) rfl (by rfl) ?_) | (refine Wk.step (m := 27) (k := 39) (v := _) rfl (by rfl) (fun wv hS => by obtain ⟨s0, s1, s2, s3, s4, s5, s6, s7, s8, s9⟩ := hS; go_simp; try with_reducible rfl) ?_)
        try simp only [Act.put, List.getElem_toArray, List.getElem_cons_succ, List.getElem_cons_zero, List.setIfInBounds_toArray, List.set_cons_zero, List.set_cons_succ]
        first | (refine Wk.skip (m := 26) (k := 40) rfl (by rfl) ?_) | (refine Wk.step (m := 26) (k := 40) (v := _) rfl (by rfl) (fun wv hS => by obtain ⟨s0, s1, s2, s3, s4, s5, s6, s7, s8, s9⟩ := hS; go_simp; try with_reducible rfl) ?_)
        try simp only [Act.put, List.getElem_toArray, List.getElem_cons_succ, List.getElem_cons_zero, List.setIfInBounds_toArray, List.set_cons_zero, List.set_cons_succ]
        first | (refine Wk.skip (m := 25) (k := 41) rfl (by rfl) ?_) | (refine Wk.step (m := 25) (k := 41) (v := _) rfl (by rfl) (fun wv hS => by obtain ⟨s0, s1, s2, s3, s4, s5, s6, s7, s8, s9⟩ := hS; go_simp; try with_reducible rfl) ?_)
        try simp only [Act.put, List.getElem_toArray, List.getElem_cons_succ, List.getElem_cons_zero, List.setIfInBounds_toArray, List.set_cons_zero, List.set_cons_succ]
        first | (refine Wk.skip (m := 24) (k := 42) rfl (by rfl) ?_) | (refine Wk.step (m := 24) (k := 42) (v := _) rfl (by rfl) (fun wv hS => by obtain ⟨s0, s1, s2, s3, s4, s5, s6, s7, s8, s9⟩ := hS; go_simp; try with_reducible rfl) ?_)
        try simp only [Act.put, List.getElem_toArray, List.getElem_cons_succ, List.getElem_cons_zero, List.setIfInBounds_toArray, List.set_cons_zero, List.set_cons_succ]
        first | (refine Wk.skip (m := 23) (k := 43) rfl (by rfl) ?_) | (refine Wk.step (m := 23) (k := 43) (v := _) rfl (by rfl) (fun wv hS => by obtain ⟨s0, s1, s2, s3, s4, s5, s6, s7, s8, s9⟩ := hS; go_simp; try with_reducible rfl) ?_)
        try simp only [Act.put, List.getElem_toArray, List.getElem_cons_succ, List.getElem_cons_zero, List.setIfInBounds_toArray, List.set_cons_zero, List.set_cons_succ]
        first | (refine Wk.skip (m := 22) (k := 44) rfl (by rfl) ?_) | (refine Wk.step (m := 22) (k := 44) (v := _) rfl (by rfl) (fun wv hS => by obtain ⟨s0, s1, s2, s3, s4, s5, s6, s7, s8, s9⟩ := hS; go_simp; try with_reducible rfl) ?_)
        try simp only [Act.put, List.getElem_toArray, List.getElem_cons_succ, List.getElem_cons_zero, List.setIfInBounds_toArray, List.set_cons_zero, List.set_cons_succ]
        first | (refine Wk.skip (m := 21) (k := 45) rfl (by rfl) ?_) | (refine Wk.step (m := 21) (k := 45) (v := _) rfl (by rfl) (fun wv hS => by obtain ⟨s0, s1, s2, s3, s4, s5, s6, s7, s8, s9⟩ := hS; go_simp; try with_reducible rfl) ?_)
        try simp only [Act.put, List.getElem_toArray, List.getElem_cons_succ, List.getElem_cons_zero, List.setIfInBounds_toArray, List.set_cons_zero, List.set_cons_succ]
        first | (refine Wk.skip (m := 20) (k := 46) rfl (by rfl) ?_) | (refine Wk.step (m := 20) (k := 46) (v := _) rfl (by rfl) (fun wv hS => by obtain ⟨s0, s1, s2, s3, s4, s5, s6, s7, s8, s9⟩ := hS; go_simp; try with_reducible rfl) ?_)
        try simp only [Act.put, List.getElem_toArray, List.getElem_cons_succ, List.getElem_cons_zero, List.setIfInBounds_toArray, List.set_cons_zero, List.set_cons_succ]
        first | (refine Wk.skip (m := 19) (k := 47) rfl (by rfl) ?_) | (refine Wk.step (m := 19) (k := 47) (v := _) rfl (by rfl) (fun wv hS => by obtain ⟨s0, s1, s2, s3, s4, s5, s6, s7, s8, s9⟩ := hS; go_simp; try with_reducible rfl) ?_)
        try simp only [Act.put, List.getElem_toArray, List.getElem_cons_succ, List.getElem_cons_zero, List.setIfInBounds_toArray, List.set_cons_zero, List.set_cons_succ]
        first | (refine Wk.skip (m := 18) (k := 48) rfl (by rfl) ?_) | (refine Wk.step (m := 18) (k := 48) (v := _) rfl (by rfl) (fun wv hS => by obtain ⟨s0, s1, s2, s3, s4, s5, s6, s7, s8, s9⟩ := hS; go_simp; try with_reducible rfl) ?_)
        try simp only [Act.put, List.getElem_toArray, List.getElem_cons_succ, List.getElem_cons_zero, List.setIfInBounds_toArray, List.set_cons_zero, List.set_cons_succ]
        first | (refine Wk.skip (m := 17) (k := 49) rfl (by rfl) ?_) | (refine Wk.step (m := 17) (k := 49) (v := _) rfl (by rfl) (fun wv hS => by obtain ⟨s0, s1, s2, s3, s4, s5, s6, s7, s8, s9⟩ := hS; go_simp; try with_reducible rfl) ?_)
        try simp only [Act.put, List.getElem_toArray, List.getElem_cons_succ, List.getElem_cons_zero, List.setIfInBounds_toArray, List.set_cons_zero, List.set_cons_succ]
        first | (refine Wk.skip (m := 16) (k := 50) rfl (by rfl) ?_) | (refine Wk.step (m := 16) (k := 50) (v := _) rfl (by rfl) (fun wv hS => by obtain ⟨s0, s1, s2, s3, s4, s5, s6, s7, s8, s9⟩ := hS; go_simp; try with_reducible rfl) ?_)
        try simp only [Act.put, List.getElem_toArray, List.getElem_cons_succ, List.getElem_cons_zero, List.setIfInBounds_toArray, List.set_cons_zero, List.set_cons_succ]
        first | (refine Wk.skip (m := 15) (k := 51) rfl (by rfl) ?_) | (refine Wk.step (m := 15) (k := 51) (v := _) rfl (by rfl) (fun wv hS => by obtain ⟨s0, s1, s2, s3, s4, s5, s6, s7, s8, s9⟩ := hS; go_simp; try with_reducible rfl) ?_)
        try simp only [Act.put, List.getElem_toArray, List.getElem_cons_succ, List.getElem_cons_zero, List.setIfInBounds_toArray, List.set_cons_zero, List.set_cons_succ]
        first | (refine Wk.skip (m := 14) (k := 52) rfl (by rfl) ?_) | (refine Wk.step (m := 14) (k := 52) (v := _) rfl (by rfl) (fun wv hS => by obtain ⟨s0, s1, s2, s3, s4, s5, s6, s7, s8, s9⟩ := hS; go_simp; try with_reducible rfl) ?_)
        try simp only [Act.put, List.getElem_toArray, List.getElem_cons_succ, List.getElem_cons_zero, List.setIfInBounds_toArray, List.set_cons_zero, List.set_cons_succ]
        first | (refine Wk.skip (m := 13) (k := 53) rfl (by rfl) ?_) | (refine Wk.step (m := 13) (k := 53) (v := _) rfl (by rfl) (fun wv hS => by obtain ⟨s0, s1, s2, s3, s4, s5, s6, s7, s8, s9⟩ := hS; go_simp; try with_reducible rfl) ?_)
        try simp only [Act.put, List.getElem_toArray, List.getElem_cons_succ, List.getElem_cons_zero, List.setIfInBounds_toArray, List.set_cons_zero, List.set_cons_succ]
        first | (refine Wk.skip (m := 12) (k := 54) rfl (by rfl) ?_) | (refine Wk.step (m := 12) (k := 54) (v := _) rfl (by rfl) (fun wv hS => by obtain ⟨s0, s1, s2, s3, s4, s5, s6, s7, s8, s9⟩ := hS; go_simp; try with_reducible rfl) ?_)
        try simp only [Act.put, List.getElem_toArray, List.getElem_cons_succ, List.getElem_cons_zero, List.setIfInBounds_toArray, List.set_cons_zero, List.set_cons_succ]
        first | (refine Wk.skip (m := 11) (k := 55) rfl (by rfl) ?_) | (refine Wk.step (m := 11) (k := 55) (v := _) rfl (by rfl) (fun wv hS => by obtain ⟨s0, s1, s2, s3, s4, s5, s6, s7, s8, s9⟩ := hS; go_simp; try with_reducible rfl) ?_)
        try simp only [Act.put, List.getElem_toArray, List.getElem_cons_succ, List.getElem_cons_zero, List.setIfInBounds_toArray, List.set_cons_zero, List.set_cons_succ]
        first | (refine Wk.skip (m := 10) (k := 56) rfl (by rfl) ?_) | (refine Wk.step (m := 10) (k := 56) (v := _) rfl (by rfl) (fun wv hS => by obtain ⟨s0, s1, s2, s3, s4, s5, s6, s7, s8, s9⟩ := hS; go_simp; try with_reducible rfl) ?_)
        try simp only [Act.put, List.getElem_toArray, List.getElem_cons_succ, List.getElem_cons_zero, List.setIfInBounds_toArray, List.set_cons_zero, List.set_cons_succ]
        first | (refine Wk.skip (m := 9) (k := 57) rfl (by rfl) ?_) | (refine Wk.step (m := 9) (k := 57) (v := _) rfl (by rfl) (fun wv hS => by obtain ⟨s0, s1, s2, s3, s4, s5, s6, s7, s8, s9⟩ := hS; go_simp; try with_reducible rfl) ?_)
        try simp only [Act.put, List.getElem_toArray, List.getElem_cons_succ, List.getElem_cons_zero, List.setIfInBounds_toArray, List.set_cons_zero, List.set_cons_succ]
        first | (refine Wk.skip (m := 8) (k := 58) rfl (by rfl) ?_) | (refine Wk.step (m := 8) (k := 58) (v := _) rfl (by rfl) (fun wv hS => by obtain ⟨s0, s1, s2, s3, s4, s5, s6, s7, s8, s9⟩ := hS; go_simp; try with_reducible rfl) ?_)
        try simp only [Act.put, List.getElem_toArray, List.getElem_cons_succ, List.getElem_cons_zero, List.setIfInBounds_toArray, List.set_cons_zero, List.set_cons_succ]
        first | (refine Wk.skip (m := 7) (k := 59) rfl (by rfl) ?_) | (refine Wk.step (m := 7) (k := 59) (v := _) rfl (by rfl) (fun wv hS => by obtain ⟨s0, s1, s2, s3, s4, s5, s6, s7, s8, s9⟩ := hS; go_simp; try with_reducible rfl) ?_)
        try simp only [Act.put, List.getElem_toArray, List.getElem_cons_succ, List.getElem_cons_zero, List.setIfInBounds_toArray, List.set_cons_zero, List.set_cons_succ]
        first | (refine Wk.skip (m := 6) (k := 60) rfl (by rfl) ?_) | (refine Wk.step (m := 6) (k := 60) (v := _) rfl (by rfl) (fun wv hS => by obtain ⟨s0, s1, s2, s3, s4, s5, s6, s7, s8, s9⟩ := hS; go_simp; try with_reducible rfl) ?_)
        try simp only [Act.put, List.getElem_toArray, List.getElem_cons_succ, List.getElem_cons_zero, List.setIfInBounds_toArray, List.set_cons_zero, List.set_cons_succ]
        first | (refine Wk.skip (m := 5) (k := 61) rfl (by rfl) ?_) | (refine Wk.step (m := 5) (k := 61) (v := _) rfl (by rfl) (fun wv hS => by obtain ⟨s0, s1, s2, s3, s4, s5, s6, s7, s8, s9⟩ := hS; go_simp; try with_reducible rfl) ?_)
        try simp only [Act.put, List.getElem_toArray, List.getElem_cons_succ, List.getElem_cons_zero, List.setIfInBounds_toArray, List.set_cons_zero, List.set_cons_succ]
        first | (refine Wk.skip (m := 4) (k := 62) rfl (by rfl) ?_) | (refine Wk.step (m := 4) (k := 62) (v := _) rfl (by rfl) (fun wv hS => by obtain ⟨s0, s1, s2, s3, s4, s5, s6, s7, s8, s9⟩ := hS; go_simp; try with_reducible rfl) ?_)
        try simp only [Act.put, List.getElem_toArray, List.getElem_cons_succ, List.getElem_cons_zero, List.setIfInBounds_toArray, List.set_cons_zero, List.set_cons_succ]
        first | (refine Wk.skip (m := 3) (k := 63) rfl (by rfl) ?_) | (refine Wk.step (m := 3) (k := 63) (v := _) rfl (by rfl) (fun wv hS => by obtain ⟨s0, s1, s2, s3, s4, s5, s6, s7, s8, s9⟩ := hS; go_simp; try with_reducible rfl) ?_)
        try simp only [Act.put, List.getElem_toArray, List.getElem_cons_succ, List.getElem_cons_zero, List.setIfInBounds_toArray, List.set_cons_zero, List.set_cons_succ]
        first | (refine Wk.skip (m := 2) (k := 64) rfl (by rfl) ?_) | (refine Wk.step (m := 2) (k := 64) (v := _) rfl (by rfl) (fun wv hS => by obtain ⟨s0, s1, s2, s3, s4, s5, s6, s7, s8, s9⟩ := hS; go_simp; try with_reducible rfl) ?_)
        try simp only [Act.put, List.getElem_toArray, List.getElem_cons_succ, List.getElem_cons_zero, List.setIfInBounds_toArray, List.set_cons_zero, List.set_cons_succ]
        first | (refine Wk.skip (m := 1) (k := 65) rfl (by rfl) ?_) | (refine Wk.step (m := 1) (k := 65) (v := _) rfl (by rfl) (fun wv hS => by obtain ⟨s0, s1, s2, s3, s4, s5, s6, s7, s8, s9⟩ := hS; go_simp; try with_reducible rfl) ?_)
        try simp only [Act.put, List.getElem_toArray, List.getElem_cons_succ, List.getElem_cons_zero, List.setIfInBounds_toArray, List.set_cons_zero, List.set_cons_succ]
        first | (refine Wk.skip (m := 0) (k := 66) rfl (by rfl) ?_) | (refine Wk.step (m := 0) (k := 66) (v := _) rfl (by rfl) (fun wv hS => by obtain ⟨s0, s1, s2, s3, s4, s5, s6, s7, s8, s9⟩ := hS; go_simp; try with_reducible rfl) ?_)
        try simp only [Act.put, List.getElem_toArray, List.getElem_cons_succ, List.getElem_cons_zero, List.setIfInBounds_toArray, List.set_cons_zero, List.set_cons_succ]
        refine Wk.done fun wE hE => ?_
        clear u0 u1 u2 u3 u4 u5 u6 u7 u8
        obtain ⟨mE, u0, u1, u2, u3, u4, u5, u6, u7, u8⟩ := hE
        go_wp2_with fail
        go_ret
        exact ⟨retB (by unfold vFlB; simp [K3.out]), M0.trans mE⟩

end Go.Proofs.Ytkmofhpipcodbaa
