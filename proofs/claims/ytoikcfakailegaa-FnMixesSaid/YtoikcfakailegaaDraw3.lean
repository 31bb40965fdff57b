/- The draws of chapter 3: two words. -/
import Derived.Test.YtoikcfakailegaaDrawNum
import Derived.Test.YtoikcfakailegaaMem
namespace Go.Proofs.Ytoikcfakailegaa
open Go.ChangeShapes Go.WideShapes Go.ChangeAt Go.RowKit
set_option linter.unusedVariables false
theorem below_cur {w w1 w2 : World} (hb : Below w.heap.size w w1) (ht : Turns w.heap.size w1 w2) : Below w.heap.size w w2 := Below.turns hb ht (Nat.le_refl _) hb.size
def Word3 (z : Int) : Prop := -1 ≤ z ∧ z ≤ 2147483648

set_option maxRecDepth 100000 in
set_option maxHeartbeats 800000 in
theorem word_any (p : Nat) (a : Option Addr) (len cap : Nat) (w : World) (hc : Cur w p a len cap) :
    Calls Try.prog 48 #[.pointer (some ⟨p, 0, none⟩)] w fun e w' => ∃ z : Int, e = .returned (.int .i64 z) ∧ Word3 z ∧ Cur w' p a len cap ∧ Turns p w w' := by
  go_enter Try.func48, Try.ntmps48
  go_wp2_with fail
  refine (once_any p a len cap 10 _ hc (by omega) (by omega)).mono ?_
  rintro e w1 ⟨b, rfl, hc1, ht1⟩
  have hp1 := hc1.lt
  cases b with
  | true =>
    go_wp2_with fail
    refine (int_any p a len cap _ 0 3 3 Word3 _ (hc1.alloc _) (ints_made [-1, 2147483647, 2147483648] _ _ _ _ hp1 (by intro z hz; simp at hz; unfold Word3; omega)) (by omega) (by omega)).mono ?_
    rintro e w2 ⟨y, rfl, hy, hc2, ht2⟩
    go_wp2_with fail
    go_ret
    exact ⟨_, rfl, hy, hc2, ht1.trans (((Turns.refl _ _).alloc _).trans ht2)⟩
  | false =>
    go_wp2_with fail
    refine (once_any p a len cap 4 _ hc1 (by omega) (by omega)).mono ?_
    rintro e w2 ⟨b, rfl, hc2, ht2⟩
    have hp2 := hc2.lt
    cases b with
    | true =>
      go_wp2_with fail
      refine (int_any p a len cap _ 0 3 3 Word3 _ (hc2.alloc _) (ints_made [0, 1, 2147483646] _ _ _ _ hp2 (by intro z hz; simp at hz; unfold Word3; omega)) (by omega) (by omega)).mono ?_
      rintro e w3 ⟨y, rfl, hy, hc3, ht3⟩
      go_wp2_with fail
      go_ret
      exact ⟨_, rfl, hy, hc3, (ht1.trans ht2).trans (((Turns.refl _ _).alloc _).trans ht3)⟩
    | false =>
      go_wp2_with fail
      refine (below_any p a len cap 1000000 _ hc2 (by omega) (by omega)).mono ?_
      rintro e w3 ⟨y, rfl, y0, y1, hc3, ht3⟩
      go_wp2_with fail
      refine (below_any p a len cap 2000 _ hc3 (by omega) (by omega)).mono ?_
      rintro e w4 ⟨v, rfl, v0, v1, hc4, ht4⟩
      have hmul : y * v ≤ 999999 * 1999 := Int.mul_le_mul (by omega) (by omega) v0 (by omega)
      have hmul0 : 0 ≤ y * v := Int.mul_nonneg y0 v0
      go_wp2_with fail
      go_ret
      exact ⟨_, rfl, ⟨by omega, by omega⟩, hc4, ((ht1.trans ht2).trans ht3).trans ht4⟩
def Pair3 (e : Ending) : Prop := ∃ x y : Int, e = .returned (.tuple #[.int .i64 x, .int .i64 y]) ∧ Word3 x ∧ Word3 y

set_option maxRecDepth 100000 in
set_option maxHeartbeats 400000 in
theorem two_any (a : Option Addr) (len cap : Nat) (w : World) (hb : Bytes8 w w.heap.size a len) (hm : len ≤ 1048576) :
    Calls Try.prog 44 #[.slice a len cap] w fun e w' => Pair3 e ∧ Below w.heap.size w w' := by
  go_enter Try.func44, Try.ntmps44
  go_wp2_with fail
  refine (new_any a len cap _ hb hm).mono ?_
  rintro e w1 ⟨rfl, hc1, hb1, hz⟩
  go_wp2_with fail
  refine (word_any _ a len cap _ hc1).mono ?_
  rintro e w2 ⟨x, rfl, hx, hc2, ht2⟩
  go_wp2_with fail
  refine (word_any _ a len cap _ hc2).mono ?_
  rintro e w3 ⟨y, rfl, hy, hc3, ht3⟩
  go_wp2_with fail
  go_ret2
  exact ⟨⟨x, y, rfl, hx, hy⟩, below_cur hb1 (ht2.trans ht3)⟩
set_option maxHeartbeats 400000 in
theorem drawAddMod (a : Option Addr) (len cap : Nat) (w : World) (hb : Bytes8 w w.heap.size a len) (hm : len ≤ 1048576) :
    Calls Try.prog 15 #[.slice a len cap] w fun e w' => Pair3 e ∧ Below w.heap.size w w' := by
  go_enter Try.func15, Try.ntmps15
  go_wp2_with fail
  refine (two_any _ _ _ _ hb hm).mono ?_
  rintro e w1 ⟨⟨x, y, rfl, hx, hy⟩, hb1⟩
  go_wp2_with fail
  go_ret2
  exact ⟨⟨x, y, rfl, hx, hy⟩, hb1⟩
set_option maxHeartbeats 400000 in
theorem drawSubMod (a : Option Addr) (len cap : Nat) (w : World) (hb : Bytes8 w w.heap.size a len) (hm : len ≤ 1048576) :
    Calls Try.prog 16 #[.slice a len cap] w fun e w' => Pair3 e ∧ Below w.heap.size w w' := by
  go_enter Try.func16, Try.ntmps16
  go_wp2_with fail
  refine (two_any _ _ _ _ hb hm).mono ?_
  rintro e w1 ⟨⟨x, y, rfl, hx, hy⟩, hb1⟩
  go_wp2_with fail
  go_ret2
  exact ⟨⟨x, y, rfl, hx, hy⟩, hb1⟩
end Go.Proofs.Ytoikcfakailegaa
