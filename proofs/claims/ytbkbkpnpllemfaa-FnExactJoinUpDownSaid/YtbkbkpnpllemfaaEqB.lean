
/- The equality of paths, with a wider bound. -/
import Derived.Test.YtbkbkpnpllemfaaCPath
import Derived.Deep.RegionHeld3
namespace Go.Proofs.Ytbkbkpnpllemfaa
open Go.ChangeShapes Go.WideShapes Go.ChangeAt Go.RowKit
set_option linter.unusedVariables false
set_option maxRecDepth 100000 in
set_option maxHeartbeats 1600000 in
theorem eqPathPartCB (x0 x1 x2 : Int) (a3 a3' : Option Addr) (n3 c3 c3' : Nat) (z3 : List THop) (B B' : Nat) (w : World) (h3 : HasHop w B a3 n3 z3) (h3' : HasHop w B' a3' n3 z3) (hB : B ≤ w.heap.size) (hB' : B' ≤ w.heap.size) (hn3 : n3 ≤ 1572864) :
    Calls Try.prog 18 #[.agg #[.int .i64 x0, .int .i64 x1, .int .i64 x2, .slice a3 n3 c3], .agg #[.int .i64 x0, .int .i64 x1, .int .i64 x2, .slice a3' n3 c3']] w fun e w' => e = .returned (.bool true) ∧ Mk0 w w' := by
  go_enter Try.func18, Try.ntmps18
  go_wp2_with fail
  have M0 := (Mk.alloc w (Obj.cells #[Value.int .i64 x0, Value.int .i64 x1, Value.int .i64 x2, Value.slice a3 n3 c3] 35)).new (Obj.cells #[Value.int .i64 x0, Value.int .i64 x1, Value.int .i64 x2, Value.slice a3' n3 c3'] 35)
  refine (eqHopS a3 a3' n3 c3 c3' B B' z3 _ (h3.mk M0 hB (.inr (Nat.le_refl _))) (h3'.mk M0 hB' (.inr (Nat.le_refl _))) (by have := M0.size; omega) (by have := M0.size; omega) (by omega)).mono ?_
  rintro e w1 ⟨rfl, m1⟩
  have M1 := M0.trans m1
  obtain ⟨q1, r1⟩ := m1.kept
  have y0 : w.heap.size < w1.heap.size := by have := m1.size; simp at this; omega
  have y1 : w.heap.size + 1 < w1.heap.size := by have := m1.size; simp at this; omega
  go_wp2_with fail
  go_ret
  exact ⟨rfl, M1⟩

set_option maxRecDepth 100000 in
set_option maxHeartbeats 4000000 in
theorem eqPathPartSB (a a' : Option Addr) (n c c' B B' : Nat) (zs : List TPathPart) (w : World) (h : HasPathPart w B a n zs) (h' : HasPathPart w B' a' n zs) (hB : B ≤ w.heap.size) (hB' : B' ≤ w.heap.size) (hn : szPathPart zs n ≤ 1572864) :
    Calls Try.prog 57 #[.slice a n c, .slice a' n c'] w fun e w' => e = .returned (.bool true) ∧ Mk0 w w' := by
  have hn0 : n ≤ 1572864 := Nat.le_trans (szPathPart_n zs n) hn
  go_enter Try.func57, Try.ntmps57
  go_wp2_with fail
  go_loopw [4, 5] (fun r i wr => r = .bool false ∧ ∃ k : Nat, k ≤ n ∧ i = .int .i64 k ∧ Mk0 w wr) (fun _ i _ => n - (intOf i).toNat)
  case atStart => exact ⟨rfl, 0, Nat.zero_le _, rfl, Mk.refl _ _ _⟩
  case round =>
    obtain ⟨rfl, k, hk, rfl, hM⟩ := hrel
    by_cases hlt : k < n
    · obtain ⟨b, off, x, rfl, hb, hx, a3, n3, c3, d0, d1, d2, d3, r3, m3, t3, z3⟩ := HasPathPart.at _ _ _ _ _ _ (h.mk hM hB (.inr (Nat.le_refl _))) hlt
      obtain ⟨b', off', x', rfl, hb', hx', a3', n3', c3', s0, s1, s2, s3, r3', m3', t3', z3'⟩ := HasPathPart.at _ _ _ _ _ _ (h'.mk hM hB' (.inr (Nat.le_refl _))) hlt
      obtain rfl : x = x' := hx.out.trans hx'.out.symm
      obtain rfl : n3 = n3' := r3.1.symm.trans r3'.1
      have hs3 : n3 ≤ 1572864 := (by have HS := szPathPart_at zs hlt; rw [← hx.out] at HS; unfold sePathPart at HS; have := r3.1; omega)
      have hB1 := Nat.le_trans hB hM.size
      have hB1' := Nat.le_trans hB' hM.size
      go_wp2_with fail
      go_region_with (go_at_call 18; refine (eqPathPartCB x.kind x.ts x.beta a3 a3' n3 c3 c3' x.hops B B' _ (r3.mk (Mk.drew1 _) hB1 (.inr (Nat.le_refl _))) (r3'.mk (Mk.drew1 _) hB1' (.inr (Nat.le_refl _))) hB1 hB1' hs3).mono ?_; rintro e w2 ⟨rfl, m2⟩)
      all_goals (
        have m3 : Mk0 wr w2 := ⟨m2.os, m2.tape, m2.output, m2.size, m2.block⟩
        clear m2 d0 s0 d1 s1 d2 s2 d3 s3
        refine ‹∀ (a : Act) (w : World), _ → _› _ _ ?_
        go_wp2_with fail
        go_roundw
        case rel => exact ⟨rfl, k + 1, by omega, by go_num, hM.trans m3⟩
        case measure => simp [intOf]; omega)
    · obtain rfl : k = n := by omega
      go_wp2_with fail
      go_ret
      exact ⟨rfl, hM⟩

set_option maxRecDepth 100000 in
set_option maxHeartbeats 1600000 in
theorem eqPathCB (a0 a0' : Option Addr) (n0 c0 c0' : Nat) (z0 : List TPathPart) (B B' : Nat) (w : World) (h0 : HasPathPart w B a0 n0 z0) (h0' : HasPathPart w B' a0' n0 z0) (hB : B ≤ w.heap.size) (hB' : B' ≤ w.heap.size) (hn0 : szPathPart z0 n0 ≤ 1572864) :
    Calls Try.prog 23 #[.agg #[.slice a0 n0 c0], .agg #[.slice a0' n0 c0']] w fun e w' => e = .returned (.bool true) ∧ Mk0 w w' := by
  go_enter Try.func23, Try.ntmps23
  go_wp2_with fail
  have M0 := (Mk.alloc w (Obj.cells #[Value.slice a0 n0 c0] 42)).new (Obj.cells #[Value.slice a0' n0 c0'] 42)
  refine (eqPathPartSB a0 a0' n0 c0 c0' B B' z0 _ (h0.mk M0 hB (.inr (Nat.le_refl _))) (h0'.mk M0 hB' (.inr (Nat.le_refl _))) (by have := M0.size; omega) (by have := M0.size; omega) (by omega)).mono ?_
  rintro e w1 ⟨rfl, m1⟩
  have M1 := M0.trans m1
  obtain ⟨q1, r1⟩ := m1.kept
  have y0 : w.heap.size < w1.heap.size := by have := m1.size; simp at this; omega
  have y1 : w.heap.size + 1 < w1.heap.size := by have := m1.size; simp at this; omega
  go_wp2_with fail
  go_ret
  exact ⟨rfl, M1⟩

end Go.Proofs.Ytbkbkpnpllemfaa
