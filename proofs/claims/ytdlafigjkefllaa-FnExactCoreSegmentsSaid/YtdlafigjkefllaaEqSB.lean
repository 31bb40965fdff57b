
/- The equality of rows of Segment, with a wider bound. -/
import Derived.Test.YtdlafigjkefllaaNSegment
import Derived.Deep.RegionHeld3
namespace Go.Proofs.Ytdlafigjkefllaa
open Go.ChangeShapes Go.WideShapes Go.ChangeAt Go.RowKit
set_option linter.unusedVariables false
set_option maxRecDepth 100000 in
set_option maxHeartbeats 1600000 in
theorem eqSegmentCB (x0 x1 : Int) (a2 a2' : Option Addr) (n2 c2 c2' : Nat) (z2 : List THop) (B B' : Nat) (w : World) (h2 : HasHop w B a2 n2 z2) (h2' : HasHop w B' a2' n2 z2) (hB : B ≤ w.heap.size) (hB' : B' ≤ w.heap.size) (hn2 : n2 ≤ 2097152) :
    Calls Try.prog 51 #[.agg #[.int .i64 x0, .int .i64 x1, .slice a2 n2 c2], .agg #[.int .i64 x0, .int .i64 x1, .slice a2' n2 c2']] w fun e w' => e = .returned (.bool true) ∧ Mk0 w w' := by
  go_enter Try.func51, Try.ntmps51
  go_wp2_with fail
  have M0 := (Mk.alloc w (Obj.cells #[Value.int .i64 x0, Value.int .i64 x1, Value.slice a2 n2 c2] 82)).new (Obj.cells #[Value.int .i64 x0, Value.int .i64 x1, Value.slice a2' n2 c2'] 82)
  refine (eqHopS a2 a2' n2 c2 c2' B B' z2 _ (h2.mk M0 hB (.inr (Nat.le_refl _))) (h2'.mk M0 hB' (.inr (Nat.le_refl _))) (by have := M0.size; omega) (by have := M0.size; omega) (by omega)).mono ?_
  rintro e w1 ⟨rfl, m1⟩
  have M1 := M0.trans m1
  obtain ⟨q1, r1⟩ := m1.kept
  have y0 : w.heap.size < w1.heap.size := by have := m1.size; simp at this; omega
  have y1 : w.heap.size + 1 < w1.heap.size := by have := m1.size; simp at this; omega
  go_wp2_with fail
  go_ret
  exact ⟨rfl, M1⟩

set_option maxRecDepth 100000 in
set_option maxHeartbeats 4000000 in
theorem eqSegmentSB (a a' : Option Addr) (n c c' B B' : Nat) (zs : List TSegment) (w : World) (h : HasSegment w B a n zs) (h' : HasSegment w B' a' n zs) (hB : B ≤ w.heap.size) (hB' : B' ≤ w.heap.size) (hn : szSegment zs n ≤ 2097152) :
    Calls Try.prog 18 #[.slice a n c, .slice a' n c'] w fun e w' => e = .returned (.bool true) ∧ Mk0 w w' := by
  have hn0 : n ≤ 2097152 := Nat.le_trans (szSegment_n zs n) hn
  go_enter Try.func18, Try.ntmps18
  go_wp2_with fail
  go_loopw [4, 5] (fun r i wr => r = .bool false ∧ ∃ k : Nat, k ≤ n ∧ i = .int .i64 k ∧ Mk0 w wr) (fun _ i _ => n - (intOf i).toNat)
  case atStart => exact ⟨rfl, 0, Nat.zero_le _, rfl, Mk.refl _ _ _⟩
  case round =>
    obtain ⟨rfl, k, hk, rfl, hM⟩ := hrel
    by_cases hlt : k < n
    · obtain ⟨b, off, x, rfl, hb, hx, a2, n2, c2, d0, d1, d2, r2, m2, t2, z2⟩ := HasSegment.at _ _ _ _ _ _ (h.mk hM hB (.inr (Nat.le_refl _))) hlt
      obtain ⟨b', off', x', rfl, hb', hx', a2', n2', c2', s0, s1, s2, r2', m2', t2', z2'⟩ := HasSegment.at _ _ _ _ _ _ (h'.mk hM hB' (.inr (Nat.le_refl _))) hlt
      obtain rfl : x = x' := hx.out.trans hx'.out.symm
      obtain rfl : n2 = n2' := r2.1.symm.trans r2'.1
      have hs2 : n2 ≤ 2097152 := (by have HS := szSegment_at zs hlt; rw [← hx.out] at HS; unfold seSegment at HS; have := r2.1; omega)
      have hB1 := Nat.le_trans hB hM.size
      have hB1' := Nat.le_trans hB' hM.size
      go_wp2_with fail
      go_region_with (go_at_call 51; refine (eqSegmentCB x.ts x.beta a2 a2' n2 c2 c2' x.hops B B' _ (r2.mk (Mk.drew1 _) hB1 (.inr (Nat.le_refl _))) (r2'.mk (Mk.drew1 _) hB1' (.inr (Nat.le_refl _))) hB1 hB1' hs2).mono ?_; rintro e w2 ⟨rfl, m2⟩)
      all_goals (
        have m3 : Mk0 wr w2 := ⟨m2.os, m2.tape, m2.output, m2.size, m2.block⟩
        clear m2 d0 s0 d1 s1 d2 s2
        refine ‹∀ (a : Act) (w : World), _ → _› _ _ ?_
        go_wp2_with fail
        go_roundw
        case rel => exact ⟨rfl, k + 1, by omega, by go_num, hM.trans m3⟩
        case measure => simp [intOf]; omega)
    · obtain rfl : k = n := by omega
      go_wp2_with fail
      go_ret
      exact ⟨rfl, hM⟩

end Go.Proofs.Ytdlafigjkefllaa
