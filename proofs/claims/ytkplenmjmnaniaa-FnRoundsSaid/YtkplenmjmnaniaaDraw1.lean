/- Chapter 1's draws of pairs and triples of integers. -/
import Derived.Test.YtkplenmjmnaniaaDrawNum
namespace Go.Proofs.Ytkplenmjmnaniaa
open Go.ChangeShapes Go.WideShapes Go.ChangeAt Go.RowKit
set_option linter.unusedVariables false

/-- Two draws from a new cursor. -/
def Pair (e : Ending) (P Q : Int → Prop) : Prop := ∃ x y : Int, e = .returned (.tuple #[.int .i64 x, .int .i64 y]) ∧ P x ∧ Q y
theorem below_cur {w w1 w2 : World} (hb : Below w.heap.size w w1) (ht : Turns w.heap.size w1 w2) : Below w.heap.size w w2 := Below.turns hb ht (Nat.le_refl _) hb.size

set_option maxRecDepth 100000 in
set_option maxHeartbeats 400000 in
theorem drawCeil (a : Option Addr) (len cap : Nat) (w : World) (hb : Bytes8 w w.heap.size a len) (hm : len ≤ 1048576) :
    Calls Try.prog 11 #[.slice a len cap] w fun e w' => Pair e I64 I64 ∧ Below w.heap.size w w' := by
  go_enter Try.func11, Try.ntmps11
  go_wp2_with fail
  refine (new_any a len cap _ hb hm).mono ?_
  rintro e w1 ⟨rfl, hc1, hb1, hz⟩
  go_wp2_with fail
  refine (one_any _ a len cap _ hc1).mono ?_
  rintro e w2 ⟨x, rfl, hx, hc2, ht2⟩
  go_wp2_with fail
  refine (one_any _ a len cap _ hc2).mono ?_
  rintro e w3 ⟨y, rfl, hy, hc3, ht3⟩
  go_wp2_with fail
  go_ret2
  exact ⟨⟨x, y, rfl, hx, hy⟩, below_cur hb1 (ht2.trans ht3)⟩

set_option maxRecDepth 100000 in
set_option maxHeartbeats 400000 in
theorem drawMin (a : Option Addr) (len cap : Nat) (w : World) (hb : Bytes8 w w.heap.size a len) (hm : len ≤ 1048576) :
    Calls Try.prog 13 #[.slice a len cap] w fun e w' => Pair e I64 I64 ∧ Below w.heap.size w w' := by
  go_enter Try.func13, Try.ntmps13
  go_wp2_with fail
  refine (new_any a len cap _ hb hm).mono ?_
  rintro e w1 ⟨rfl, hc1, hb1, hz⟩
  go_wp2_with fail
  refine (one_any _ a len cap _ hc1).mono ?_
  rintro e w2 ⟨x, rfl, hx, hc2, ht2⟩
  go_wp2_with fail
  refine (one_any _ a len cap _ hc2).mono ?_
  rintro e w3 ⟨y, rfl, hy, hc3, ht3⟩
  go_wp2_with fail
  go_ret2
  exact ⟨⟨x, y, rfl, hx, hy⟩, below_cur hb1 (ht2.trans ht3)⟩

theorem wrap_range (x : Int) : I64 (wrap64 x) := by unfold I64 wrap64; omega

set_option maxRecDepth 100000 in
set_option maxHeartbeats 400000 in
theorem drawMod (a : Option Addr) (len cap : Nat) (w : World) (hb : Bytes8 w w.heap.size a len) (hm : len ≤ 1048576) :
    Calls Try.prog 12 #[.slice a len cap] w fun e w' => Pair e I64 I64 ∧ Below w.heap.size w w' := by
  go_enter Try.func12, Try.ntmps12
  go_wp2_with fail
  refine (new_any a len cap _ hb hm).mono ?_
  rintro e w1 ⟨rfl, hc1, hb1, hz⟩
  go_wp2_with fail
  refine (one_any _ a len cap _ hc1).mono ?_
  rintro e w2 ⟨x, rfl, hx, hc2, ht2⟩
  go_wp2_with fail
  refine (below_any _ a len cap 9 _ hc2 (by omega) (by omega)).mono ?_
  rintro e w3 ⟨y, rfl, y0, y1, hc3, ht3⟩
  have hp3 := hc3.lt
  go_wp2_with fail
  refine (int_any _ a len cap _ 0 6 6 I64 _ (hc3.alloc _) (ints_made [1, 2, 7, 251, 0, -3] _ _ _ _ hp3 (by intro z hz; unfold I64; simp at hz; omega)) (by omega) (by omega)).mono ?_
  rintro e w4 ⟨z, rfl, hz4, hc4, ht4⟩
  go_wp2_with fail
  go_ret2
  exact ⟨⟨_, z, rfl, wrap_range _, hz4⟩, below_cur hb1 ((ht2.trans ht3).trans (((Turns.refl _ _).alloc _).trans ht4))⟩

set_option maxRecDepth 100000 in
set_option maxHeartbeats 400000 in
theorem drawInRange (a : Option Addr) (len cap : Nat) (w : World) (hb : Bytes8 w w.heap.size a len) (hm : len ≤ 1048576) :
    Calls Try.prog 14 #[.slice a len cap] w fun e w' => (∃ x y z : Int, e = .returned (.tuple #[.int .i64 x, .int .i64 y, .int .i64 z])) ∧ Below w.heap.size w w' := by
  go_enter Try.func14, Try.ntmps14
  go_wp2_with fail
  refine (new_any a len cap _ hb hm).mono ?_
  rintro e w1 ⟨rfl, hc1, hb1, hz⟩
  go_wp2_with fail
  refine (below_any _ a len cap 6 _ hc1 (by omega) (by omega)).mono ?_
  rintro e w2 ⟨x, rfl, x0, x1, hc2, ht2⟩
  go_wp2_with fail
  refine (below_any _ a len cap 6 _ hc2 (by omega) (by omega)).mono ?_
  rintro e w3 ⟨y, rfl, y0, y1, hc3, ht3⟩
  go_wp2_with fail
  refine (below_any _ a len cap 6 _ hc3 (by omega) (by omega)).mono ?_
  rintro e w4 ⟨z, rfl, z0, z1, hc4, ht4⟩
  go_wp2_with fail
  go_ret3
  exact ⟨⟨x, y, z, rfl⟩, below_cur hb1 ((ht2.trans ht3).trans ht4)⟩
end Go.Proofs.Ytkplenmjmnaniaa
