
/- Packet by value: the laws' marks. -/
import Derived.Test.YtdlafigjkefllaaCPacket
import Derived.Test.YtdlafigjkefllaaKPath
namespace Go.Proofs.Ytdlafigjkefllaa
open Go.ChangeShapes Go.WideShapes Go.ChangeAt Go.RowKit
set_option linter.unusedVariables false

set_option maxRecDepth 100000 in
set_option maxHeartbeats 4000000 in
theorem markPacketC (x0 : Int) (x1 : Int) (x2 : Int) (x4 : Int) (x5 : Int) (x6 : Int) (x7 : Int) (x8 : Int) (a3 : Option Addr) (n3 c3 : Nat) (z3 : List TPathPart) (a9 : Option Addr) (n9 c9 : Nat) (z9 : List TByte) (lo d3 hi : Nat) (k : Int) (w : World) (h3 : OwnPathPart w lo d3 a3 n3 z3) (h9 : OwnByte w d3 hi a9 n9 z9) (hd0 : lo ≤ d3) (hd1 : d3 ≤ hi) (hh : hi ≤ w.heap.size) (hk0 : 0 ≤ k) (hk1 : k ≤ 536870912) (hn3 : szPathPart z3 n3 ≤ 1048576) (hn9 : n9 ≤ 1048576) :
    Calls Try.prog 34 #[.agg #[.int .i64 x0, .int .i64 x1, .int .i64 x2, .slice a3 n3 c3, .int .i64 x4, .int .i64 x5, .int .i64 x6, .int .i64 x7, .int .i64 x8, .slice a9 n9 c9], .int .i64 k] w fun e w' => ∃ l : Int, (0 ≤ l ∧ l ≤ k + (8388608 + 1048576)) ∧ e = .returned (.int .i64 l) ∧ Mk lo hi w w' := by
  have M0 := Mk.alloc w (Obj.cells #[Value.int .i64 x0, Value.int .i64 x1, Value.int .i64 x2, Value.slice a3 n3 c3, Value.int .i64 x4, Value.int .i64 x5, Value.int .i64 x6, Value.int .i64 x7, Value.int .i64 x8, Value.slice a9 n9 c9] 66)
  have k3 : (w.alloc (Obj.cells #[Value.int .i64 x0, Value.int .i64 x1, Value.int .i64 x2, Value.slice a3 n3 c3, Value.int .i64 x4, Value.int .i64 x5, Value.int .i64 x6, Value.int .i64 x7, Value.int .i64 x8, Value.slice a9 n9 c9] 66)).cell? ⟨w.heap.size, 3, none⟩ = some (.slice a3 n3 c3) := by simp [go_sem]
  have k9 : (w.alloc (Obj.cells #[Value.int .i64 x0, Value.int .i64 x1, Value.int .i64 x2, Value.slice a3 n3 c3, Value.int .i64 x4, Value.int .i64 x5, Value.int .i64 x6, Value.int .i64 x7, Value.int .i64 x8, Value.slice a9 n9 c9] 66)).cell? ⟨w.heap.size, 9, none⟩ = some (.slice a9 n9 c9) := by simp [go_sem]
  have szA : (w.alloc (Obj.cells #[Value.int .i64 x0, Value.int .i64 x1, Value.int .i64 x2, Value.slice a3 n3 c3, Value.int .i64 x4, Value.int .i64 x5, Value.int .i64 x6, Value.int .i64 x7, Value.int .i64 x8, Value.slice a9 n9 c9] 66)).heap.size = w.heap.size + 1 := by rw [World.size_alloc]
  replace h3 := h3.mk M0 (by omega) (.inr (.inr (Nat.le_refl _)))
  replace h9 := h9.mk M0 (by omega) (.inr (.inr (Nat.le_refl _)))
  have M : Mk lo hi w _ := M0.wide (.inl (Nat.le_refl _))
  go_enter Try.func34, Try.ntmps34
  go_wp2_with fail
  generalize w.alloc (Obj.cells #[Value.int .i64 x0, Value.int .i64 x1, Value.int .i64 x2, Value.slice a3 n3 c3, Value.int .i64 x4, Value.int .i64 x5, Value.int .i64 x6, Value.int .i64 x7, Value.int .i64 x8, Value.slice a9 n9 c9] 66) = u0 at *
  refine (markPathC a3 n3 c3 z3 lo d3 _ _ h3 (by omega) (by omega) (by omega) (by omega) hn3).mono ?_
  rintro e w1 ⟨l1, hl1, rfl, m1⟩
  have zt1 := m1.size
  replace k9 := m1.cellAtR k9 (.inr (by omega))
  replace h9 := h9.mk m1 (by omega) (by omega)
  replace M := M.trans (m1.wide (.inr ⟨by omega, by omega⟩))
  go_wp2_with fail
  refine (markByteS a9 n9 c9 d3 hi _ z9 _ h9 (by omega) (by omega) (by omega)).mono ?_
  rintro e w2 ⟨rfl, m2⟩
  have zt2 := m2.size
  replace M := M.trans (m2.wide (.inr ⟨by omega, by omega⟩))
  go_wp2_with fail
  go_ret
  exact ⟨_, ⟨by omega, by omega⟩, rfl, M⟩
end Go.Proofs.Ytdlafigjkefllaa
