
/- CoreSegments of the program. -/
import Derived.Test.YtdlafigjkefllaaCatS
import Derived.Test.YtdlafigjkefllaaWs
import Derived.Test.YtdlafigjkefllaaFh
namespace Go.Proofs.Ytdlafigjkefllaa
open Go.ChangeShapes Go.WideShapes Go.ChangeAt Go.RowKit
set_option linter.unusedVariables false
def between (p q : Int) (x : TSegment) : Bool := (segFirst x.hops x.hops.length == p) && (segLast x.hops x.hops.length == q)
set_option maxRecDepth 100000 in
set_option maxHeartbeats 4000000 in
theorem dirCl (x : TSegment) (a3 : Option Addr) (n3 c3 B q t : Nat) (pf pt : Int) (w : World) (hr : HasHop w B a3 n3 x.hops) (hB : B ≤ w.heap.size) (hn : n3 ≤ 1048576) (hq : w.cell? ⟨q, 0, none⟩ = some (.int .i64 pf)) (ht : w.cell? ⟨t, 0, none⟩ = some (.int .i64 pt)) :
    Calls Try.prog 84 #[.agg #[.int .i64 x.ts, .int .i64 x.beta, .slice a3 n3 c3], .pointer (some ⟨q, 0, none⟩), .pointer (some ⟨t, 0, none⟩)] w fun e w' => e = .returned (.bool (between pf pt x)) ∧ Mk0 w w' := by
  have M0 : Mk0 w (w.alloc (Obj.cells #[Value.int .i64 x.ts, Value.int .i64 x.beta, Value.slice a3 n3 c3] 82)) := (Mk.alloc w (Obj.cells #[Value.int .i64 x.ts, Value.int .i64 x.beta, Value.slice a3 n3 c3] 82))
  have b0 : (w.alloc (Obj.cells #[Value.int .i64 x.ts, Value.int .i64 x.beta, Value.slice a3 n3 c3] 82)).cell? ⟨w.heap.size, 0, none⟩ = some (.int .i64 x.ts) := by simp [go_sem]
  have b1 : (w.alloc (Obj.cells #[Value.int .i64 x.ts, Value.int .i64 x.beta, Value.slice a3 n3 c3] 82)).cell? ⟨w.heap.size, 1, none⟩ = some (.int .i64 x.beta) := by simp [go_sem]
  have b2 : (w.alloc (Obj.cells #[Value.int .i64 x.ts, Value.int .i64 x.beta, Value.slice a3 n3 c3] 82)).cell? ⟨w.heap.size, 2, none⟩ = some (.slice a3 n3 c3) := by simp [go_sem]
  have hs0 : (w.alloc (Obj.cells #[Value.int .i64 x.ts, Value.int .i64 x.beta, Value.slice a3 n3 c3] 82)).heap.size = w.heap.size + 1 := by simp only [World.size_alloc]
  have hn3 := hr.1
  have hq1 := M0.cellAt hq
  have ht1 := M0.cellAt ht
  have hrb := hr.mk M0 hB (.inr (Nat.le_refl _))
  have hBb := Nat.le_trans hB M0.size
  cases c1 : (segFirst x.hops n3 == pf)
  · have C1 := Lib.hid c1
    go_enter Try.func84, Try.ntmps84
    go_wp2_with fail
    generalize (w.alloc (Obj.cells #[Value.int .i64 x.ts, Value.int .i64 x.beta, Value.slice a3 n3 c3] 82)) = wb at *
    refine wp_region_wk (fun w' => Mk0 wb w' ∧ w'.cell? ⟨w.heap.size, 0, none⟩ = some (.int .i64 x.ts) ∧ w'.cell? ⟨w.heap.size, 1, none⟩ = some (.int .i64 x.beta) ∧ w'.cell? ⟨w.heap.size, 2, none⟩ = some (.slice a3 n3 c3) ∧ w'.cell? ⟨q, 0, none⟩ = some (.int .i64 pf) ∧ w'.cell? ⟨t, 0, none⟩ = some (.int .i64 pt)) (by kernel_rfl) (by kernel_rfl) (⟨Mk.drew1 _, b0, b1, b2, hq1, ht1⟩) ?_
    change Wk _ _ _ _ 11 0 _
    first | (refine Wk.skip (m := 10) (k := 0) rfl (by rfl) ?_) | (refine Wk.step (m := 10) (k := 0) (v := _) rfl (by rfl) (fun wv hS => by obtain ⟨s0, s1, s2, s3, s4, s5⟩ := hS; go_simp; try with_reducible rfl) ?_)
    try simp only [Act.put, List.getElem_toArray, List.getElem_cons_zero, List.setIfInBounds_toArray, List.set_cons_zero, List.set_cons_succ]
    refine Wk.call (m := 9) (k := 1) (v := .int .i64 (segFirst x.hops n3)) _ _ rfl (by rfl) (fun wv hS => by obtain ⟨s0, s1, s2, s3, s4, s5⟩ := hS; go_simp; first | done | exact ⟨rfl, rfl⟩ | with_reducible rfl) (fun wv hS => ?_) ?_; · obtain ⟨s0, s1, s2, s3, s4, s5⟩ := hS; refine (implFirst _ _ _ _ _ _ x.hops wv (hrb.mk s0 hBb (.inr (Nat.le_refl _))) (Nat.le_trans hBb s0.size) hn).mono ?_; rintro e w' ⟨rfl, mm⟩; exact ⟨rfl, ⟨s0.trans mm, mm.cellAt s1, mm.cellAt s2, mm.cellAt s3, mm.cellAt s4, mm.cellAt s5⟩⟩
    try simp only [Act.put, List.getElem_toArray, List.getElem_cons_succ, List.getElem_cons_zero, List.setIfInBounds_toArray, List.set_cons_zero, List.set_cons_succ]
    first | (refine Wk.skip (m := 8) (k := 2) rfl (by rfl) ?_) | (refine Wk.step (m := 8) (k := 2) (v := _) rfl (by rfl) (fun wv hS => by obtain ⟨s0, s1, s2, s3, s4, s5⟩ := hS; go_simp; try with_reducible rfl) ?_)
    try simp only [Act.put, List.getElem_toArray, List.getElem_cons_succ, List.getElem_cons_zero, List.setIfInBounds_toArray, List.set_cons_zero, List.set_cons_succ]
    first | (refine Wk.skip (m := 7) (k := 3) rfl (by rfl) ?_) | (refine Wk.step (m := 7) (k := 3) (v := _) rfl (by rfl) (fun wv hS => by obtain ⟨s0, s1, s2, s3, s4, s5⟩ := hS; go_simp; try with_reducible rfl) ?_)
    try simp only [Act.put, List.getElem_toArray, List.getElem_cons_succ, List.getElem_cons_zero, List.setIfInBounds_toArray, List.set_cons_zero, List.set_cons_succ]
    first | (refine Wk.skip (m := 6) (k := 4) rfl (by rfl) ?_) | (refine Wk.step (m := 6) (k := 4) (v := _) rfl (by rfl) (fun wv hS => by obtain ⟨s0, s1, s2, s3, s4, s5⟩ := hS; go_simp; try with_reducible rfl) ?_)
    try simp only [Act.put, List.getElem_toArray, List.getElem_cons_succ, List.getElem_cons_zero, List.setIfInBounds_toArray, List.set_cons_zero, List.set_cons_succ]
    first | (refine Wk.skip (m := 5) (k := 5) rfl (by rfl) ?_) | (refine Wk.step (m := 5) (k := 5) (v := _) rfl (by rfl) (fun wv hS => by obtain ⟨s0, s1, s2, s3, s4, s5⟩ := hS; go_simp; try with_reducible rfl) ?_)
    try simp only [Act.put, List.getElem_toArray, List.getElem_cons_succ, List.getElem_cons_zero, List.setIfInBounds_toArray, List.set_cons_zero, List.set_cons_succ]
    refine Wk.skip (m := 4) (k := 6) rfl (by rfl) ?_
    try simp only [Act.put, List.getElem_toArray, List.getElem_cons_succ, List.getElem_cons_zero, List.setIfInBounds_toArray, List.set_cons_zero, List.set_cons_succ]
    first | (refine Wk.skip (m := 3) (k := 7) rfl (by rfl) ?_) | (refine Wk.step (m := 3) (k := 7) (v := _) rfl (by rfl) (fun wv hS => by obtain ⟨s0, s1, s2, s3, s4, s5⟩ := hS; go_simp; try with_reducible rfl) ?_)
    try simp only [Act.put, List.getElem_toArray, List.getElem_cons_succ, List.getElem_cons_zero, List.setIfInBounds_toArray, List.set_cons_zero, List.set_cons_succ]
    first | (refine Wk.skip (m := 2) (k := 8) rfl (by rfl) ?_) | (refine Wk.step (m := 2) (k := 8) (v := _) rfl (by rfl) (fun wv hS => by obtain ⟨s0, s1, s2, s3, s4, s5⟩ := hS; go_simp; try with_reducible rfl) ?_)
    try simp only [Act.put, List.getElem_toArray, List.getElem_cons_succ, List.getElem_cons_zero, List.setIfInBounds_toArray, List.set_cons_zero, List.set_cons_succ]
    first | (refine Wk.skip (m := 1) (k := 9) rfl (by rfl) ?_) | (refine Wk.step (m := 1) (k := 9) (v := _) rfl (by rfl) (fun wv hS => by obtain ⟨s0, s1, s2, s3, s4, s5⟩ := hS; go_simp; try with_reducible rfl) ?_)
    try simp only [Act.put, List.getElem_toArray, List.getElem_cons_succ, List.getElem_cons_zero, List.setIfInBounds_toArray, List.set_cons_zero, List.set_cons_succ]
    first | (refine Wk.skip (m := 0) (k := 10) rfl (by rfl) ?_) | (refine Wk.step (m := 0) (k := 10) (v := _) rfl (by rfl) (fun wv hS => by obtain ⟨s0, s1, s2, s3, s4, s5⟩ := hS; go_simp; try with_reducible rfl) ?_)
    try simp only [Act.put, List.getElem_toArray, List.getElem_cons_succ, List.getElem_cons_zero, List.setIfInBounds_toArray, List.set_cons_zero, List.set_cons_succ]
    refine Wk.done fun wE hE => ?_
    clear b0 b1 b2 hq1 ht1
    obtain ⟨mE, b0, b1, b2, hq1, ht1⟩ := hE
    go_wp2_with fail
    go_ret
    exact ⟨retB (by unfold between; rw [hn3, C1.out]; rfl), M0.trans mE⟩
  · have C1 := Lib.hid c1
    go_enter Try.func84, Try.ntmps84
    go_wp2_with fail
    generalize (w.alloc (Obj.cells #[Value.int .i64 x.ts, Value.int .i64 x.beta, Value.slice a3 n3 c3] 82)) = wb at *
    refine wp_region_wk (fun w' => Mk0 wb w' ∧ w'.cell? ⟨w.heap.size, 0, none⟩ = some (.int .i64 x.ts) ∧ w'.cell? ⟨w.heap.size, 1, none⟩ = some (.int .i64 x.beta) ∧ w'.cell? ⟨w.heap.size, 2, none⟩ = some (.slice a3 n3 c3) ∧ w'.cell? ⟨q, 0, none⟩ = some (.int .i64 pf) ∧ w'.cell? ⟨t, 0, none⟩ = some (.int .i64 pt)) (by kernel_rfl) (by kernel_rfl) (⟨Mk.drew1 _, b0, b1, b2, hq1, ht1⟩) ?_
    change Wk _ _ _ _ 11 0 _
    first | (refine Wk.skip (m := 10) (k := 0) rfl (by rfl) ?_) | (refine Wk.step (m := 10) (k := 0) (v := _) rfl (by rfl) (fun wv hS => by obtain ⟨s0, s1, s2, s3, s4, s5⟩ := hS; go_simp; try with_reducible rfl) ?_)
    try simp only [Act.put, List.getElem_toArray, List.getElem_cons_zero, List.setIfInBounds_toArray, List.set_cons_zero, List.set_cons_succ]
    refine Wk.call (m := 9) (k := 1) (v := .int .i64 (segFirst x.hops n3)) _ _ rfl (by rfl) (fun wv hS => by obtain ⟨s0, s1, s2, s3, s4, s5⟩ := hS; go_simp; first | done | exact ⟨rfl, rfl⟩ | with_reducible rfl) (fun wv hS => ?_) ?_; · obtain ⟨s0, s1, s2, s3, s4, s5⟩ := hS; refine (implFirst _ _ _ _ _ _ x.hops wv (hrb.mk s0 hBb (.inr (Nat.le_refl _))) (Nat.le_trans hBb s0.size) hn).mono ?_; rintro e w' ⟨rfl, mm⟩; exact ⟨rfl, ⟨s0.trans mm, mm.cellAt s1, mm.cellAt s2, mm.cellAt s3, mm.cellAt s4, mm.cellAt s5⟩⟩
    try simp only [Act.put, List.getElem_toArray, List.getElem_cons_succ, List.getElem_cons_zero, List.setIfInBounds_toArray, List.set_cons_zero, List.set_cons_succ]
    first | (refine Wk.skip (m := 8) (k := 2) rfl (by rfl) ?_) | (refine Wk.step (m := 8) (k := 2) (v := _) rfl (by rfl) (fun wv hS => by obtain ⟨s0, s1, s2, s3, s4, s5⟩ := hS; go_simp; try with_reducible rfl) ?_)
    try simp only [Act.put, List.getElem_toArray, List.getElem_cons_succ, List.getElem_cons_zero, List.setIfInBounds_toArray, List.set_cons_zero, List.set_cons_succ]
    first | (refine Wk.skip (m := 7) (k := 3) rfl (by rfl) ?_) | (refine Wk.step (m := 7) (k := 3) (v := _) rfl (by rfl) (fun wv hS => by obtain ⟨s0, s1, s2, s3, s4, s5⟩ := hS; go_simp; try with_reducible rfl) ?_)
    try simp only [Act.put, List.getElem_toArray, List.getElem_cons_succ, List.getElem_cons_zero, List.setIfInBounds_toArray, List.set_cons_zero, List.set_cons_succ]
    first | (refine Wk.skip (m := 6) (k := 4) rfl (by rfl) ?_) | (refine Wk.step (m := 6) (k := 4) (v := _) rfl (by rfl) (fun wv hS => by obtain ⟨s0, s1, s2, s3, s4, s5⟩ := hS; go_simp; try with_reducible rfl) ?_)
    try simp only [Act.put, List.getElem_toArray, List.getElem_cons_succ, List.getElem_cons_zero, List.setIfInBounds_toArray, List.set_cons_zero, List.set_cons_succ]
    first | (refine Wk.skip (m := 5) (k := 5) rfl (by rfl) ?_) | (refine Wk.step (m := 5) (k := 5) (v := _) rfl (by rfl) (fun wv hS => by obtain ⟨s0, s1, s2, s3, s4, s5⟩ := hS; go_simp; try with_reducible rfl) ?_)
    try simp only [Act.put, List.getElem_toArray, List.getElem_cons_succ, List.getElem_cons_zero, List.setIfInBounds_toArray, List.set_cons_zero, List.set_cons_succ]
    refine Wk.call (m := 4) (k := 6) (v := .int .i64 (segLast x.hops n3)) _ _ rfl (by rfl) (fun wv hS => by obtain ⟨s0, s1, s2, s3, s4, s5⟩ := hS; go_simp; first | done | exact ⟨rfl, rfl⟩ | with_reducible rfl) (fun wv hS => ?_) ?_; · obtain ⟨s0, s1, s2, s3, s4, s5⟩ := hS; refine (implLast _ _ _ _ _ _ x.hops wv (hrb.mk s0 hBb (.inr (Nat.le_refl _))) (Nat.le_trans hBb s0.size) hn).mono ?_; rintro e w' ⟨rfl, mm⟩; exact ⟨rfl, ⟨s0.trans mm, mm.cellAt s1, mm.cellAt s2, mm.cellAt s3, mm.cellAt s4, mm.cellAt s5⟩⟩
    try simp only [Act.put, List.getElem_toArray, List.getElem_cons_succ, List.getElem_cons_zero, List.setIfInBounds_toArray, List.set_cons_zero, List.set_cons_succ]
    first | (refine Wk.skip (m := 3) (k := 7) rfl (by rfl) ?_) | (refine Wk.step (m := 3) (k := 7) (v := _) rfl (by rfl) (fun wv hS => by obtain ⟨s0, s1, s2, s3, s4, s5⟩ := hS; go_simp; try with_reducible rfl) ?_)
    try simp only [Act.put, List.getElem_toArray, List.getElem_cons_succ, List.getElem_cons_zero, List.setIfInBounds_toArray, List.set_cons_zero, List.set_cons_succ]
    first | (refine Wk.skip (m := 2) (k := 8) rfl (by rfl) ?_) | (refine Wk.step (m := 2) (k := 8) (v := _) rfl (by rfl) (fun wv hS => by obtain ⟨s0, s1, s2, s3, s4, s5⟩ := hS; go_simp; try with_reducible rfl) ?_)
    try simp only [Act.put, List.getElem_toArray, List.getElem_cons_succ, List.getElem_cons_zero, List.setIfInBounds_toArray, List.set_cons_zero, List.set_cons_succ]
    first | (refine Wk.skip (m := 1) (k := 9) rfl (by rfl) ?_) | (refine Wk.step (m := 1) (k := 9) (v := _) rfl (by rfl) (fun wv hS => by obtain ⟨s0, s1, s2, s3, s4, s5⟩ := hS; go_simp; try with_reducible rfl) ?_)
    try simp only [Act.put, List.getElem_toArray, List.getElem_cons_succ, List.getElem_cons_zero, List.setIfInBounds_toArray, List.set_cons_zero, List.set_cons_succ]
    first | (refine Wk.skip (m := 0) (k := 10) rfl (by rfl) ?_) | (refine Wk.step (m := 0) (k := 10) (v := _) rfl (by rfl) (fun wv hS => by obtain ⟨s0, s1, s2, s3, s4, s5⟩ := hS; go_simp; try with_reducible rfl) ?_)
    try simp only [Act.put, List.getElem_toArray, List.getElem_cons_succ, List.getElem_cons_zero, List.setIfInBounds_toArray, List.set_cons_zero, List.set_cons_succ]
    refine Wk.done fun wE hE => ?_
    clear b0 b1 b2 hq1 ht1
    obtain ⟨mE, b0, b1, b2, hq1, ht1⟩ := hE
    go_wp2_with fail
    go_ret
    exact ⟨retB (by unfold between; rw [hn3, C1.out]; rfl), M0.trans mE⟩

set_option maxRecDepth 100000 in
set_option maxHeartbeats 4000000 in
theorem implDir (a0 : Option Addr) (n0 c0 B : Nat) (z0 : List TSegment) (pf pt : Int) (w : World) (h0 : HasSegment w B a0 n0 z0) (hB : B ≤ w.heap.size) (hs : szSegment z0 n0 ≤ 1048576) :
    Calls Try.prog 54 #[.slice a0 n0 c0, .int .i64 pf, .int .i64 pt] w (OutLSegment (filtUp (between pf pt) z0 n0) w) := by
  have M0 : Mk0 w ((w.alloc (Obj.cells #[Value.int .i64 pf] 3)).alloc (Obj.cells #[Value.int .i64 pt] 3)) := ((Mk.alloc w (Obj.cells #[Value.int .i64 pf] 3)).new (Obj.cells #[Value.int .i64 pt] 3))
  have f0 : ((w.alloc (Obj.cells #[Value.int .i64 pf] 3)).alloc (Obj.cells #[Value.int .i64 pt] 3)).cell? ⟨w.heap.size, 0, none⟩ = some (.int .i64 pf) := by simp [go_sem]
  have t0 : ((w.alloc (Obj.cells #[Value.int .i64 pf] 3)).alloc (Obj.cells #[Value.int .i64 pt] 3)).cell? ⟨w.heap.size + 1, 0, none⟩ = some (.int .i64 pt) := by simp [go_sem]
  have hs0 : ((w.alloc (Obj.cells #[Value.int .i64 pf] 3)).alloc (Obj.cells #[Value.int .i64 pt] 3)).heap.size = w.heap.size + 1 + 1 := by simp only [World.size_alloc]
  have hh := h0.mk M0 hB (.inr (Nat.le_refl _))
  have hBb := Nat.le_trans hB M0.size
  go_enter Try.func54, Try.ntmps54
  go_wp2_with fail
  generalize ((w.alloc (Obj.cells #[Value.int .i64 pf] 3)).alloc (Obj.cells #[Value.int .i64 pt] 3)) = wb at *
  refine (findSegs2 (between pf pt) 84 (.pointer (some ⟨w.heap.size, 0, none⟩)) (.pointer (some ⟨w.heap.size + 1, 0, none⟩)) a0 n0 c0 B z0 wb hh hBb hs (fun _ _ _ _ _ => rfl) (fun x a3 n3 c3 w1 m hr hb p1 p2 p3 => dirCl x a3 n3 c3 B w.heap.size (w.heap.size + 1) pf pt w1 hr (Nat.le_trans hBb m.size) hb (m.cellAt f0) (m.cellAt t0))).mono ?_
  rintro e w3 ⟨A3, N3, C3, rfl, hcc, hoo, mm⟩
  go_wp2_with fail
  go_ret
  exact ⟨A3, N3, C3, rfl, hcc, hoo.wide M0.size (Nat.le_refl _), M0.trans mm⟩

set_option maxRecDepth 100000 in
set_option maxHeartbeats 16000000 in
theorem implCore (a0 a1 : Option Addr) (n0 c0 n1 c1 B : Nat) (z1 : List TSegment) (pf pt : Int) (w : World) (h1 : HasSegment w B a1 n1 z1) (hB : B ≤ w.heap.size) (hs : szSegment z1 n1 ≤ 1048576) :
    Calls Try.prog 24 #[.agg #[.slice a0 n0 c0, .slice a1 n1 c1], .int .i64 pf, .int .i64 pt] w (OutLSegment ((filtUp (between pf pt) z1 n1) ++ (filtUp (between pt pf) z1 n1)) w) := by
  have M0 : Mk0 w (w.alloc (Obj.cells #[Value.slice a0 n0 c0, Value.slice a1 n1 c1] 37)) := (Mk.alloc w (Obj.cells #[Value.slice a0 n0 c0, Value.slice a1 n1 c1] 37))
  have k0 : (w.alloc (Obj.cells #[Value.slice a0 n0 c0, Value.slice a1 n1 c1] 37)).cell? ⟨w.heap.size, 0, none⟩ = some (.slice a0 n0 c0) := by simp [go_sem]
  have k1 : (w.alloc (Obj.cells #[Value.slice a0 n0 c0, Value.slice a1 n1 c1] 37)).cell? ⟨w.heap.size, 1, none⟩ = some (.slice a1 n1 c1) := by simp [go_sem]
  have hs0 : (w.alloc (Obj.cells #[Value.slice a0 n0 c0, Value.slice a1 n1 c1] 37)).heap.size = w.heap.size + 1 := by simp only [World.size_alloc]
  have hb1 : (filtUp (between pf pt) z1 n1).length ≤ 1048576 := Nat.le_trans (filtUp_le _ _ _) (Nat.le_trans (szSegment_n z1 n1) hs)
  have hb2 : (filtUp (between pt pf) z1 n1).length ≤ 1048576 := Nat.le_trans (filtUp_le _ _ _) (Nat.le_trans (szSegment_n z1 n1) hs)
  obtain ⟨R1, hR1⟩ : ∃ R, Hid (R = (filtUp (between pf pt) z1 n1)) := ⟨_, Lib.hid rfl⟩
  obtain ⟨R2, hR2⟩ : ∃ R, Hid (R = (filtUp (between pt pf) z1 n1)) := ⟨_, Lib.hid rfl⟩
  rw [← hR1.out] at hb1 ⊢
  rw [← hR2.out] at hb2 ⊢
  go_enter Try.func24, Try.ntmps24
  go_wp2_with fail
  generalize (w.alloc (Obj.cells #[Value.slice a0 n0 c0, Value.slice a1 n1 c1] 37)) = wb at *
  refine wp_region_fh (fun (g : Bxs) w' => (Mk0 wb w' ∧ w'.cell? ⟨w.heap.size, 0, none⟩ = some (.slice a0 n0 c0) ∧ w'.cell? ⟨w.heap.size, 1, none⟩ = some (.slice a1 n1 c1)) ∧ BxS wb.heap.size g w') (fhF [fun g x wv => (x 0) = .pointer (some ⟨w.heap.size, 1, none⟩), fun g x wv => (x 1) = .slice a1 n1 c1, fun g x wv => (x 2) = .int .i64 pf, fun g x wv => (x 3) = .int .i64 pt, fun g x wv => ∃ (A : Option Addr) (N C lo hi : Nat), (x 4) = .slice A N C ∧ OwnN WSegment wv lo hi A N R1 ∧ ((A = none → C = 0) ∧ (N ≤ C ∧ C ≤ 9223372036854775807)) ∧ wb.heap.size ≤ lo ∧ lo ≤ hi ∧ hi ≤ wv.heap.size, fun g x wv => (x 5) = .pointer (some ⟨w.heap.size, 1, none⟩), fun g x wv => (x 6) = .slice a1 n1 c1, fun g x wv => (x 7) = .int .i64 pt, fun g x wv => (x 8) = .int .i64 pf, fun g x wv => ∃ (A : Option Addr) (N C lo hi : Nat) (A2 : Option Addr) (N2 C2 lo2 hi2 : Nat), (x 4) = .slice A N C ∧ OwnN WSegment wv lo hi A N R1 ∧ ((A = none → C = 0) ∧ (N ≤ C ∧ C ≤ 9223372036854775807)) ∧ wb.heap.size ≤ lo ∧ lo ≤ hi ∧ (x 9) = .slice A2 N2 C2 ∧ OwnN WSegment wv lo2 hi2 A2 N2 R2 ∧ ((A2 = none → C2 = 0) ∧ (N2 ≤ C2 ∧ C2 ≤ 9223372036854775807)) ∧ hi ≤ lo2 ∧ lo2 ≤ hi2 ∧ hi2 ≤ wv.heap.size, fun g x wv => ∃ (A : Option Addr) (N C lo hi : Nat) (A2 : Option Addr) (N2 C2 lo2 hi2 : Nat) (NB : Nat), (x 10) = .slice (some ⟨NB, 0, none⟩) 2 2 ∧ OwnN WSegment wv lo hi A N R1 ∧ ((A = none → C = 0) ∧ (N ≤ C ∧ C ≤ 9223372036854775807)) ∧ wb.heap.size ≤ lo ∧ lo ≤ hi ∧ OwnN WSegment wv lo2 hi2 A2 N2 R2 ∧ ((A2 = none → C2 = 0) ∧ (N2 ≤ C2 ∧ C2 ≤ 9223372036854775807)) ∧ hi ≤ lo2 ∧ lo2 ≤ hi2 ∧ hi2 ≤ wv.heap.size ∧ wv.cell? ⟨NB, 0, none⟩ = some (.slice A N C) ∧ wv.cell? ⟨NB, 1, none⟩ = some (.slice A2 N2 C2), fun g x wv => ∃ (A : Option Addr) (N C lo hi : Nat), (x 11) = .slice A N C ∧ OwnN WSegment wv lo hi A N (R1 ++ R2) ∧ ((A = none → C = 0) ∧ (N ≤ C ∧ C ≤ 9223372036854775807)) ∧ wb.heap.size ≤ lo ∧ lo ≤ hi ∧ hi ≤ wv.heap.size]) BxX (fun _ _ => False) (spL [[0], [1], [2], [3], [4], [5], [6], [7], [8], [4, 9], [10], [11]]) 13 12 (by kernel_rfl) (by kernel_rfl) (by kernel_rfl) (by decide) (by decide) (by kernel_rfl) (fun h => absurd h (by decide)) (fhM_mono ⟨fun g g' v w w' h x => h, fun g g' v w w' h x => h, fun g g' v w w' h x => h, fun g g' v w w' h x => h, fun g g' v w w' h x => (by obtain ⟨A, N, C, lo, hi, e, o, cc, d1, d2, d3⟩ := h; exact ⟨A, N, C, lo, hi, e, o.mk x.far d3 (.inr (.inr (Nat.le_refl _))), cc, d1, d2, Nat.le_trans d3 x.far.size⟩), fun g g' v w w' h x => h, fun g g' v w w' h x => h, fun g g' v w w' h x => h, fun g g' v w w' h x => h, fun g g' v w w' h x => (by obtain ⟨A, N, C, lo, hi, A2, N2, C2, lo2, hi2, e, o, cc, d1, d2, e2, o2, cc2, d3, d4, d5⟩ := h; exact ⟨A, N, C, lo, hi, A2, N2, C2, lo2, hi2, e, o.mk x.far (by omega) (.inr (.inr (Nat.le_refl _))), cc, d1, d2, e2, o2.mk x.far d5 (.inr (.inr (Nat.le_refl _))), cc2, d3, d4, Nat.le_trans d5 x.far.size⟩), fun g g' v w w' h x => (by obtain ⟨A, N, C, lo, hi, A2, N2, C2, lo2, hi2, NB, e, o, cc, d1, d2, o2, cc2, d3, d4, d5, q0, q1⟩ := h; exact ⟨A, N, C, lo, hi, A2, N2, C2, lo2, hi2, NB, e, o.mk x.far (by omega) (.inr (.inr (Nat.le_refl _))), cc, d1, d2, o2.mk x.far d5 (.inr (.inr (Nat.le_refl _))), cc2, d3, d4, Nat.le_trans d5 x.far.size, x.far.cellAt q0, x.far.cellAt q1⟩), fun g g' v w w' h x => (by obtain ⟨A, N, C, lo, hi, e, o, cc, d1, d2, d3⟩ := h; exact ⟨A, N, C, lo, hi, e, o.mk x.far d3 (.inr (.inr (Nat.le_refl _))), cc, d1, d2, Nat.le_trans d3 x.far.size⟩), trivial⟩) ⟨⟨Mk.drew1 _, k0, k1⟩, BxS.none_ _ _⟩ ?_
  change WkH _ _ _ _ _ _ _ 13 12 12 0 _
  refine WkH.value (m := 11) (k := 0) (by decide) rfl rfl (of_decide_eq_true (by rfl)) rfl (fun g wv hS hF => ?_) (fun v0 => ?_)
  · obtain ⟨⟨s0, s1, s2⟩, hB2⟩ := hS
    exact ⟨.pointer (some ⟨w.heap.size, 1, none⟩), wv, g, (by go_simp; try with_reducible rfl), ⟨⟨s0, s1, s2⟩, hB2⟩, BxX.same (Mk.refl _ _ _), rfl⟩
  try simp only [Act.put, List.getElem_toArray, List.getElem_cons_zero, List.setIfInBounds_toArray, List.set_cons_zero, List.set_cons_succ]
  refine WkH.value (m := 10) (k := 1) (by decide) rfl rfl (of_decide_eq_true (by rfl)) rfl (fun g wv hS hF => ?_) (fun v1 => ?_)
  · obtain ⟨⟨s0, s1, s2⟩, hB2⟩ := hS
    have f0 : v0 = .pointer (some ⟨w.heap.size, 1, none⟩) := hF 0 (by rfl)
    obtain rfl := f0
    exact ⟨.slice a1 n1 c1, wv, g, (by go_simp; try with_reducible rfl), ⟨⟨s0, s1, s2⟩, hB2⟩, BxX.same (Mk.refl _ _ _), rfl⟩
  try simp only [Act.put, List.getElem_toArray, List.getElem_cons_succ, List.getElem_cons_zero, List.setIfInBounds_toArray, List.set_cons_zero, List.set_cons_succ]
  refine WkH.value (m := 9) (k := 2) (by decide) rfl rfl (of_decide_eq_true (by rfl)) rfl (fun g wv hS hF => ?_) (fun v2 => ?_)
  · obtain ⟨⟨s0, s1, s2⟩, hB2⟩ := hS
    exact ⟨.int .i64 pf, wv, g, (by go_simp; try with_reducible rfl), ⟨⟨s0, s1, s2⟩, hB2⟩, BxX.same (Mk.refl _ _ _), rfl⟩
  try simp only [Act.put, List.getElem_toArray, List.getElem_cons_succ, List.getElem_cons_zero, List.setIfInBounds_toArray, List.set_cons_zero, List.set_cons_succ]
  refine WkH.value (m := 8) (k := 3) (by decide) rfl rfl (of_decide_eq_true (by rfl)) rfl (fun g wv hS hF => ?_) (fun v3 => ?_)
  · obtain ⟨⟨s0, s1, s2⟩, hB2⟩ := hS
    exact ⟨.int .i64 pt, wv, g, (by go_simp; try with_reducible rfl), ⟨⟨s0, s1, s2⟩, hB2⟩, BxX.same (Mk.refl _ _ _), rfl⟩
  try simp only [Act.put, List.getElem_toArray, List.getElem_cons_succ, List.getElem_cons_zero, List.setIfInBounds_toArray, List.set_cons_zero, List.set_cons_succ]
  refine WkH.call (m := 7) (k := 4) (by decide) rfl rfl (of_decide_eq_true (by rfl)) rfl (fun g wv hS hF => ?_) (fun v4 => ?_)
  · obtain ⟨⟨s0, s1, s2⟩, hB2⟩ := hS
    have f1 : v1 = .slice a1 n1 c1 := hF 1 (by rfl)
    obtain rfl := f1
    have f2 : v2 = .int .i64 pf := hF 2 (by rfl)
    obtain rfl := f2
    have f3 : v3 = .int .i64 pt := hF 3 (by rfl)
    obtain rfl := f3
    refine ⟨_, _, (by go_simp; first | done | exact ⟨rfl, rfl⟩ | with_reducible rfl), ?_⟩
    refine ((implDir a1 n1 c1 B z1 pf pt wv (h1.mk (M0.trans s0) hB (.inr (Nat.le_refl _))) (Nat.le_trans hB (M0.trans s0).size) hs)).mono ?_
    rintro e w' ⟨A, N, C, rfl, cc, o, mm⟩
    exact ⟨_, g, rfl, ⟨⟨s0.trans mm, mm.cellAt s1, mm.cellAt s2⟩, hB2.mk0 mm⟩, BxX.same mm, ⟨A, N, C, wv.heap.size, w'.heap.size, rfl, hR1.out ▸ o, cc, s0.size, mm.size, Nat.le_refl _⟩⟩
  try simp only [Act.put, List.getElem_toArray, List.getElem_cons_succ, List.getElem_cons_zero, List.setIfInBounds_toArray, List.set_cons_zero, List.set_cons_succ]
  refine WkH.value (m := 6) (k := 5) (by decide) rfl rfl (of_decide_eq_true (by rfl)) rfl (fun g wv hS hF => ?_) (fun v5 => ?_)
  · obtain ⟨⟨s0, s1, s2⟩, hB2⟩ := hS
    exact ⟨.pointer (some ⟨w.heap.size, 1, none⟩), wv, g, (by go_simp; try with_reducible rfl), ⟨⟨s0, s1, s2⟩, hB2⟩, BxX.same (Mk.refl _ _ _), rfl⟩
  try simp only [Act.put, List.getElem_toArray, List.getElem_cons_succ, List.getElem_cons_zero, List.setIfInBounds_toArray, List.set_cons_zero, List.set_cons_succ]
  refine WkH.value (m := 5) (k := 6) (by decide) rfl rfl (of_decide_eq_true (by rfl)) rfl (fun g wv hS hF => ?_) (fun v6 => ?_)
  · obtain ⟨⟨s0, s1, s2⟩, hB2⟩ := hS
    have f5 : v5 = .pointer (some ⟨w.heap.size, 1, none⟩) := hF 5 (by rfl)
    obtain rfl := f5
    exact ⟨.slice a1 n1 c1, wv, g, (by go_simp; try with_reducible rfl), ⟨⟨s0, s1, s2⟩, hB2⟩, BxX.same (Mk.refl _ _ _), rfl⟩
  try simp only [Act.put, List.getElem_toArray, List.getElem_cons_succ, List.getElem_cons_zero, List.setIfInBounds_toArray, List.set_cons_zero, List.set_cons_succ]
  refine WkH.value (m := 4) (k := 7) (by decide) rfl rfl (of_decide_eq_true (by rfl)) rfl (fun g wv hS hF => ?_) (fun v7 => ?_)
  · obtain ⟨⟨s0, s1, s2⟩, hB2⟩ := hS
    exact ⟨.int .i64 pt, wv, g, (by go_simp; try with_reducible rfl), ⟨⟨s0, s1, s2⟩, hB2⟩, BxX.same (Mk.refl _ _ _), rfl⟩
  try simp only [Act.put, List.getElem_toArray, List.getElem_cons_succ, List.getElem_cons_zero, List.setIfInBounds_toArray, List.set_cons_zero, List.set_cons_succ]
  refine WkH.value (m := 3) (k := 8) (by decide) rfl rfl (of_decide_eq_true (by rfl)) rfl (fun g wv hS hF => ?_) (fun v8 => ?_)
  · obtain ⟨⟨s0, s1, s2⟩, hB2⟩ := hS
    exact ⟨.int .i64 pf, wv, g, (by go_simp; try with_reducible rfl), ⟨⟨s0, s1, s2⟩, hB2⟩, BxX.same (Mk.refl _ _ _), rfl⟩
  try simp only [Act.put, List.getElem_toArray, List.getElem_cons_succ, List.getElem_cons_zero, List.setIfInBounds_toArray, List.set_cons_zero, List.set_cons_succ]
  refine WkH.call (m := 2) (k := 9) (by decide) rfl rfl (of_decide_eq_true (by rfl)) rfl (fun g wv hS hF => ?_) (fun v9 => ?_)
  · obtain ⟨⟨s0, s1, s2⟩, hB2⟩ := hS
    have f6 : v6 = .slice a1 n1 c1 := hF 6 (by rfl)
    obtain rfl := f6
    have f7 : v7 = .int .i64 pt := hF 7 (by rfl)
    obtain rfl := f7
    have f8 : v8 = .int .i64 pf := hF 8 (by rfl)
    obtain rfl := f8
    have f4 : ∃ (A : Option Addr) (N C lo hi : Nat), v4 = .slice A N C ∧ OwnN WSegment wv lo hi A N R1 ∧ ((A = none → C = 0) ∧ (N ≤ C ∧ C ≤ 9223372036854775807)) ∧ wb.heap.size ≤ lo ∧ lo ≤ hi ∧ hi ≤ wv.heap.size := hF 4 (by rfl)
    obtain ⟨A, N, C, lo, hi, rfl, o, cc, d1, d2, d3⟩ := f4
    refine ⟨_, _, (by go_simp; first | done | exact ⟨rfl, rfl⟩ | with_reducible rfl), ?_⟩
    refine ((implDir a1 n1 c1 B z1 pt pf wv (h1.mk (M0.trans s0) hB (.inr (Nat.le_refl _))) (Nat.le_trans hB (M0.trans s0).size) hs)).mono ?_
    rintro e w' ⟨A2, N2, C2, rfl, cc2, o2, mm⟩
    exact ⟨_, g, rfl, ⟨⟨s0.trans mm, mm.cellAt s1, mm.cellAt s2⟩, hB2.mk0 mm⟩, BxX.same mm, ⟨A, N, C, lo, hi, A2, N2, C2, wv.heap.size, w'.heap.size, rfl, o.mk mm d3 (.inr (.inr (Nat.le_refl _))), cc, d1, d2, rfl, hR2.out ▸ o2, cc2, d3, mm.size, Nat.le_refl _⟩⟩
  try simp only [Act.put, List.getElem_toArray, List.getElem_cons_succ, List.getElem_cons_zero, List.setIfInBounds_toArray, List.set_cons_zero, List.set_cons_succ]
  refine WkH.value (m := 1) (k := 10) (by decide) rfl rfl (of_decide_eq_true (by rfl)) rfl (fun g wv hS hF => ?_) (fun v10 => ?_)
  · obtain ⟨⟨s0, s1, s2⟩, hB2⟩ := hS
    have f9 : ∃ (A : Option Addr) (N C lo hi : Nat) (A2 : Option Addr) (N2 C2 lo2 hi2 : Nat), v4 = .slice A N C ∧ OwnN WSegment wv lo hi A N R1 ∧ ((A = none → C = 0) ∧ (N ≤ C ∧ C ≤ 9223372036854775807)) ∧ wb.heap.size ≤ lo ∧ lo ≤ hi ∧ v9 = .slice A2 N2 C2 ∧ OwnN WSegment wv lo2 hi2 A2 N2 R2 ∧ ((A2 = none → C2 = 0) ∧ (N2 ≤ C2 ∧ C2 ≤ 9223372036854775807)) ∧ hi ≤ lo2 ∧ lo2 ≤ hi2 ∧ hi2 ≤ wv.heap.size := hF 9 (by rfl)
    obtain ⟨A, N, C, lo, hi, A2, N2, C2, lo2, hi2, rfl, o, cc, d1, d2, rfl, o2, cc2, d3, d4, d5⟩ := f9
    have mm := Mk.alloc wv (Obj.cells #[.slice A N C, .slice A2 N2 C2] 34)
    exact ⟨.slice (some ⟨wv.heap.size, 0, none⟩) 2 2, (wv.alloc (Obj.cells #[.slice A N C, .slice A2 N2 C2] 34)), g, (by go_simp; try with_reducible rfl), ⟨⟨s0.trans mm, mm.cellAt s1, mm.cellAt s2⟩, hB2.mk0 mm⟩, BxX.same mm, ⟨A, N, C, lo, hi, A2, N2, C2, lo2, hi2, wv.heap.size, rfl, o.mk mm (by omega) (.inr (.inr (Nat.le_refl _))), cc, d1, d2, o2.mk mm d5 (.inr (.inr (Nat.le_refl _))), cc2, d3, d4, Nat.le_trans d5 mm.size, by rw [World.cell?_alloc_at _ _ _ _ rfl]; rfl, by rw [World.cell?_alloc_at _ _ _ _ rfl]; rfl⟩⟩
  try simp only [Act.put, List.getElem_toArray, List.getElem_cons_succ, List.getElem_cons_zero, List.setIfInBounds_toArray, List.set_cons_zero, List.set_cons_succ]
  refine WkH.call (m := 0) (k := 11) (by decide) rfl rfl (of_decide_eq_true (by rfl)) rfl (fun g wv hS hF => ?_) (fun v11 => ?_)
  · obtain ⟨⟨s0, s1, s2⟩, hB2⟩ := hS
    have f10 : ∃ (A : Option Addr) (N C lo hi : Nat) (A2 : Option Addr) (N2 C2 lo2 hi2 : Nat) (NB : Nat), v10 = .slice (some ⟨NB, 0, none⟩) 2 2 ∧ OwnN WSegment wv lo hi A N R1 ∧ ((A = none → C = 0) ∧ (N ≤ C ∧ C ≤ 9223372036854775807)) ∧ wb.heap.size ≤ lo ∧ lo ≤ hi ∧ OwnN WSegment wv lo2 hi2 A2 N2 R2 ∧ ((A2 = none → C2 = 0) ∧ (N2 ≤ C2 ∧ C2 ≤ 9223372036854775807)) ∧ hi ≤ lo2 ∧ lo2 ≤ hi2 ∧ hi2 ≤ wv.heap.size ∧ wv.cell? ⟨NB, 0, none⟩ = some (.slice A N C) ∧ wv.cell? ⟨NB, 1, none⟩ = some (.slice A2 N2 C2) := hF 10 (by rfl)
    obtain ⟨A, N, C, lo, hi, A2, N2, C2, lo2, hi2, NB, rfl, o, cc, d1, d2, o2, cc2, d3, d4, d5, q0, q1⟩ := f10
    refine ⟨_, _, (by go_simp; first | done | exact ⟨rfl, rfl⟩ | with_reducible rfl), ?_⟩
    refine ((concatOwn NB A A2 N C N2 C2 lo hi lo2 hi2 R1 R2 wv q0 q1 o o2 cc.1 cc2.1 (by rw [← o.1]; exact hb1) (by rw [← o2.1]; exact hb2) d2 d3 d4 d5)).mono ?_
    rintro e w' ⟨A9, N9, C9, rfl, cc9, o9, mm⟩
    exact ⟨_, g, rfl, ⟨⟨s0.trans mm, mm.cellAt s1, mm.cellAt s2⟩, hB2.mk0 mm⟩, BxX.same mm, ⟨A9, N9, C9, lo, w'.heap.size, rfl, o9, cc9, d1, by have := mm.size; omega, Nat.le_refl _⟩⟩
  try simp only [Act.put, List.getElem_toArray, List.getElem_cons_succ, List.getElem_cons_zero, List.setIfInBounds_toArray, List.set_cons_zero, List.set_cons_succ]
  refine WkH.done fun gE wE hE hF => ?_
  clear k0 k1
  obtain ⟨⟨mE, k0, k1⟩, hBE⟩ := hE
  change wpAny _ _ _ _ 1 _ _ _
  have f11 : ∃ (A : Option Addr) (N C lo hi : Nat), v11 = .slice A N C ∧ OwnN WSegment wE lo hi A N (R1 ++ R2) ∧ ((A = none → C = 0) ∧ (N ≤ C ∧ C ≤ 9223372036854775807)) ∧ wb.heap.size ≤ lo ∧ lo ≤ hi ∧ hi ≤ wE.heap.size := hF 11 (by decide)
  obtain ⟨A, N, C, lo, hi, rfl, o, cc, d1, d2, d3⟩ := f11
  clear hF hBE
  refine wpAny_ready (rs := [12]) (by kernel_rfl) (by simp) ?_
  refine (AllReady.cons rfl (fun K hK => ?_) AllReady.nil)
  go_simp
  refine hK _ _ ?_
  clear hK K
  try simp only [Act.put, List.getElem_toArray, List.getElem_cons_succ, List.getElem_cons_zero, List.setIfInBounds_toArray, List.set_cons_zero, List.set_cons_succ]
  refine wpAny_doneN (by kernel_rfl) ?_
  refine ‹∀ (a : Act) (w : World), _ → _› _ _ ?_
  have M := M0.trans mE
  have z0 := M0.size
  go_wp2_with fail
  go_ret
  exact ⟨A, N, C, rfl, cc, o.wide (by omega) d3, M⟩

end Go.Proofs.Ytdlafigjkefllaa
