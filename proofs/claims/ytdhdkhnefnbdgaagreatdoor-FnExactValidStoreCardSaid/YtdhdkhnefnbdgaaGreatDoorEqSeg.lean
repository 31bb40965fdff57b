
/- EqualSegments of both sides. -/
import Derived.Test.YtdhdkhnefnbdgaaGreatDoorEqHops
import Derived.Test.YtdhdkhnefnbdgaaGreatDoorCSegment
namespace Go.Proofs.YtdhdkhnefnbdgaaGreatDoor
open Go.ChangeShapes Go.WideShapes Go.ChangeAt Go.RowKit
set_option linter.unusedVariables false
def eqSegB (x0 y0 x1 y1 : Int) (zs zs' : List THop) (n n' : Nat) : Bool := (x0 == x1) && ((y0 == y1) && eqHopsB zs zs' n n')
set_option maxRecDepth 100000 in
set_option maxHeartbeats 4000000 in
theorem specEqSeg (x0 y0 x1 y1 : Int) (a a' : Option Addr) (n n' c c' B B' : Nat) (zs zs' : List THop) (w : World) (h : HasHop w B a n zs) (h' : HasHop w B' a' n' zs') (hB : B ≤ w.heap.size) (hB' : B' ≤ w.heap.size) (hn : n ≤ 1048576) (hn' : n' ≤ 1048576) :
    Calls Tryz.prog 88 #[.agg #[.int .i64 x0, .int .i64 y0, .slice a n c], .agg #[.int .i64 x1, .int .i64 y1, .slice a' n' c']] w fun e w' => e = .returned (.bool (eqSegB x0 y0 x1 y1 zs zs' n n')) ∧ Mk0 w w' := by
  have M0 := (Mk.alloc w (Obj.cells #[Value.int .i64 x0, Value.int .i64 y0, Value.slice a n c] 39)).new (Obj.cells #[Value.int .i64 x1, Value.int .i64 y1, Value.slice a' n' c'] 39)
  have hs := Nat.le_trans hB M0.size
  have hs' := Nat.le_trans hB' M0.size
  cases e0 : (x0 == x1)
  · have HR := Lib.hid (show eqSegB x0 y0 x1 y1 zs zs' n n' = false by unfold eqSegB; rw [e0]; rfl)
    go_enter Tryz.func88, Tryz.ntmps88
    go_wp2_with fail
    go_ret
    exact ⟨retB HR.out.symm, M0⟩
  · cases e1 : (y0 == y1)
    · have HR := Lib.hid (show eqSegB x0 y0 x1 y1 zs zs' n n' = false by unfold eqSegB; rw [e0, e1]; rfl)
      go_enter Tryz.func88, Tryz.ntmps88
      go_wp2_with fail
      go_ret
      exact ⟨retB HR.out.symm, M0⟩
    · have HR := Lib.hid (show eqSegB x0 y0 x1 y1 zs zs' n n' = eqHopsB zs zs' n n' by unfold eqSegB; rw [e0, e1]; rfl)
      go_enter Tryz.func88, Tryz.ntmps88
      go_wp2_with fail
      refine (specSameHops _ _ _ _ _ _ B B' zs zs' _ (h.mk M0 hB (.inr (Nat.le_refl _))) (h'.mk M0 hB' (.inr (Nat.le_refl _))) hs hs' hn hn').mono ?_
      rintro e w2 ⟨rfl, m, rfl⟩
      go_wp2_with fail
      go_ret
      exact ⟨retB HR.out.symm, M0.trans (Mk.drewN _ _)⟩

set_option maxRecDepth 100000 in
set_option maxHeartbeats 4000000 in
theorem implEqSeg (x0 y0 x1 y1 : Int) (a a' : Option Addr) (n n' c c' B B' : Nat) (zs zs' : List THop) (w : World) (h : HasHop w B a n zs) (h' : HasHop w B' a' n' zs') (hB : B ≤ w.heap.size) (hB' : B' ≤ w.heap.size) (hn : n ≤ 1048576) (hn' : n' ≤ 1048576) :
    Calls Tryz.prog 89 #[.agg #[.int .i64 x0, .int .i64 y0, .slice a n c], .agg #[.int .i64 x1, .int .i64 y1, .slice a' n' c']] w fun e w' => e = .returned (.bool (eqSegB x0 y0 x1 y1 zs zs' n n')) ∧ Mk0 w w' := by
  have M0 := (Mk.alloc w (Obj.cells #[Value.int .i64 x0, Value.int .i64 y0, Value.slice a n c] 39)).new (Obj.cells #[Value.int .i64 x1, Value.int .i64 y1, Value.slice a' n' c'] 39)
  have hs := Nat.le_trans hB M0.size
  have hs' := Nat.le_trans hB' M0.size
  cases e0 : (x0 == x1)
  · have HR := Lib.hid (show eqSegB x0 y0 x1 y1 zs zs' n n' = false by unfold eqSegB; rw [e0]; rfl)
    go_enter Tryz.func89, Tryz.ntmps89
    go_wp2_with fail
    go_ret
    exact ⟨retB HR.out.symm, M0⟩
  · cases e1 : (y0 == y1)
    · have HR := Lib.hid (show eqSegB x0 y0 x1 y1 zs zs' n n' = false by unfold eqSegB; rw [e0, e1]; rfl)
      go_enter Tryz.func89, Tryz.ntmps89
      go_wp2_with fail
      go_ret
      exact ⟨retB HR.out.symm, M0⟩
    · have HR := Lib.hid (show eqSegB x0 y0 x1 y1 zs zs' n n' = eqHopsB zs zs' n n' by unfold eqSegB; rw [e0, e1]; rfl)
      go_enter Tryz.func89, Tryz.ntmps89
      go_wp2_with fail
      refine (implSameHops _ _ _ _ _ _ B B' zs zs' _ (h.mk M0 hB (.inr (Nat.le_refl _))) (h'.mk M0 hB' (.inr (Nat.le_refl _))) hs hs' hn hn').mono ?_
      rintro e w2 ⟨rfl, m, rfl⟩
      go_wp2_with fail
      go_ret
      exact ⟨retB HR.out.symm, M0.trans (Mk.drewN _ _)⟩

end Go.Proofs.YtdhdkhnefnbdgaaGreatDoor
