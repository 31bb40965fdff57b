
/- Segment databases: the laws' marks. -/
import Derived.Test.YtdlafigjkefllaaKNSegment
import Derived.Test.YtdlafigjkefllaaCSegmentDatabase
namespace Go.Proofs.Ytdlafigjkefllaa
open Go.ChangeShapes Go.WideShapes Go.ChangeAt Go.RowKit
set_option linter.unusedVariables false
set_option maxRecDepth 100000 in
set_option maxHeartbeats 4000000 in
theorem markSegmentDatabaseC (a0 : Option Addr) (n0 c0 : Nat) (z0 : List TSegment) (a1 : Option Addr) (n1 c1 : Nat) (z1 : List TSegment) (lo mid hi : Nat) (k : Int) (w : World) (h0 : OwnSegment w lo mid a0 n0 z0) (h1 : OwnSegment w mid hi a1 n1 z1) (hd0 : lo ≤ mid) (hd1 : mid ≤ hi) (hh : hi ≤ w.heap.size) (hk0 : 0 ≤ k) (hk1 : k ≤ 1048576) (hn0 : szSegment z0 n0 ≤ 1048576) (hn1 : szSegment z1 n1 ≤ 1048576) :
    Calls Try.prog 20 #[.agg #[.slice a0 n0 c0, .slice a1 n1 c1], .int .i64 k] w fun e w' => ∃ l : Int, (0 ≤ l ∧ l ≤ k + 16777216) ∧ e = .returned (.int .i64 l) ∧ Mk lo hi w w' := by
  have M0 := Mk.alloc w (Obj.cells #[Value.slice a0 n0 c0, Value.slice a1 n1 c1] 37)
  have K1 : (w.alloc (Obj.cells #[Value.slice a0 n0 c0, Value.slice a1 n1 c1] 37)).cell? ⟨w.heap.size, 1, none⟩ = some (.slice a1 n1 c1) := by simp [go_sem]
  have hs0 : n0 + sumTo seSegment z0 n0 ≤ 1048576 := hn0
  have hs1 : n1 + sumTo seSegment z1 n1 ≤ 1048576 := hn1
  go_enter Try.func20, Try.ntmps20
  go_wp2_with fail
  generalize hW : w.alloc (Obj.cells #[Value.slice a0 n0 c0, Value.slice a1 n1 c1] 37) = wb at *
  refine (markSegmentSN a0 n0 c0 lo mid k z0 _ (h0.mk M0 (by omega) (.inr (.inr (Nat.le_refl _)))) hn0 hk0 (by omega) (Nat.le_trans (by omega) M0.size)).mono ?_
  rintro e w2 ⟨rfl, m2⟩
  replace K1 := m2.cellAtR K1 (.inr (Nat.le_trans hd1 hh))
  go_wp2_with fail
  refine (markSegmentSN a1 n1 c1 mid hi _ z1 _ ((h1.mk M0 hh (.inr (.inr (Nat.le_refl _)))).mk m2 (Nat.le_trans hh M0.size) (.inr (.inl (Nat.le_refl _)))) hn1 (by omega) (by omega) (Nat.le_trans (Nat.le_trans hh M0.size) m2.size)).mono ?_
  rintro e w3 ⟨rfl, m3⟩
  go_wp2_with fail
  go_ret
  exact ⟨_, ⟨by omega, by omega⟩, rfl, ((M0.wide (.inl (Nat.le_refl _))).trans (m2.wide (.inr ⟨Nat.le_refl _, hd1⟩))).trans (m3.wide (.inr ⟨hd0, Nat.le_refl _⟩))⟩
end Go.Proofs.Ytdlafigjkefllaa
