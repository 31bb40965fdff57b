/- A new cursor; the draws of numbers. -/
import Derived.Test.YtoikcfakailegaaDraw
namespace Go.Proofs.Ytoikcfakailegaa
open Go.ChangeShapes Go.WideShapes Go.ChangeAt Go.RowKit
set_option linter.unusedVariables false

theorem IsCur.made {w : World} {a : Option Addr} {len cap : Nat} (hb : Bytes8 w w.heap.size a len) (hm : len ≤ 1048576) (z : Int) (T : TypeId) :
    IsCur (w.alloc (Obj.cells #[Value.slice a len cap, Value.int IntKind.i64 0, Value.int IntKind.i64 z] T)) w.heap.size a len cap 0 z :=
  ⟨by go_cell, by go_cell, by go_cell, by go_cell, by go_cell, Nat.zero_le _, hm, hb.turn ((Turns.refl _ _).alloc _)⟩

theorem cell_lt {w : World} {q : Addr} {v : Value} (h : w.cell? q = some v) : q.block < w.heap.size := by
  rcases Nat.lt_or_ge q.block w.heap.size with h' | h'
  · exact h'
  · unfold World.cell? at h
    rw [Array.getElem?_eq_none h'] at h
    simp at h

theorem Cur.lt {w : World} {p : Nat} {a : Option Addr} {len cap : Nat} (h : Cur w p a len cap) : p < w.heap.size := by
  obtain ⟨i, z, h⟩ := h
  exact cell_lt h.c0

/-- What is made beside a cursor leaves it alone. -/
theorem Cur.below {w w' : World} {p : Nat} {a : Option Addr} {len cap : Nat} (h : Cur w p a len cap) (hb : Below w.heap.size w w') : Cur w' p a len cap := by
  have hp := h.lt
  obtain ⟨i, z, h⟩ := h
  exact ⟨i, z, by rw [hb.cell (p := ⟨p, 0, none⟩) hp]; exact h.c0, by rw [hb.cell (p := ⟨p, 1, none⟩) hp]; exact h.c1, by rw [hb.cell (p := ⟨p, 2, none⟩) hp]; exact h.c2,
    by rw [hb.frozen (p := ⟨p, 1, none⟩) hp]; exact h.f1, by rw [hb.frozen (p := ⟨p, 2, none⟩) hp]; exact h.f2, h.le, h.max, h.bytes.turn (Turns.of_below hb)⟩
theorem Cur.alloc {w : World} {p : Nat} {a : Option Addr} {len cap : Nat} (h : Cur w p a len cap) (o : Obj) : Cur (w.alloc o) p a len cap := h.below ((Below.refl _ _).alloc (Nat.le_refl _) o)

theorem ints_made (zs : List Int) (w : World) (p : Nat) (T : TypeId) (Q : Int → Prop) (hp : p < w.heap.size) (hQ : ∀ z ∈ zs, Q z) :
    Ints (w.alloc (.cells (zs.map (Value.int .i64)).toArray T)) p w.heap.size 0 zs.length Q := by
  refine ⟨by omega, by simp, fun i hi => ⟨zs[i], ?_, hQ _ (List.getElem_mem hi)⟩⟩
  rw [World.cell?_alloc_at _ _ _ _ rfl]
  simp [hi]

def I64 (z : Int) : Prop := -9223372036854775808 ≤ z ∧ z ≤ 9223372036854775807

set_option maxRecDepth 100000 in
set_option maxHeartbeats 800000 in
theorem new_any (a : Option Addr) (len cap : Nat) (w : World) (hb : Bytes8 w w.heap.size a len) (hm : len ≤ 1048576) :
    Calls Try.prog 47 #[.slice a len cap] w fun e w' => e = .returned (.pointer (some ⟨w.heap.size, 0, none⟩)) ∧ Cur w' w.heap.size a len cap ∧ Below w.heap.size w w' ∧ w.heap.size < w'.heap.size := by
  have HB := Lib.hid hb
  clear hb
  go_enter Try.func47, Try.ntmps47
  go_wp2
  go_loop [3, 4] (fun h i => ∃ (k : Nat) (z : Int), k ≤ len ∧ i = .int .i64 k ∧ h = .int .i64 z) (fun _ i => len - (intOf i).toNat)
  case atStart => exact ⟨0, _, Nat.zero_le _, rfl, rfl⟩
  case round =>
    obtain ⟨k, z, hk, rfl, rfl⟩ := hrel
    by_cases hlt : k < len
    · by_cases h4 : k < 4000
      · have b1 : decide ((k : Int) < 4000) = true := by simp; omega
        rcases HB.out with h0 | ⟨b, off, rfl, hbp, hbs, hc⟩
        · omega
        obtain ⟨n, hn, hn0, hn1⟩ := hc k hlt
        clear hc
        go_wp2
        go_round
        case rel => exact ⟨k + 1, _, by omega, by go_num, rfl⟩
        case measure => (show len - ((k : Int) + 1).toNat < len - (k : Int).toNat); omega
      · have b1 : decide ((k : Int) < 4000) = false := by simp; omega
        go_wp2
        go_ret
        refine ⟨rfl, ⟨0, z, ?_⟩, (Below.refl _ _).alloc (Nat.le_refl _) _, by simp⟩
        exact IsCur.made HB.out hm _ _
    · go_wp2
      go_ret
      refine ⟨rfl, ⟨0, z, ?_⟩, (Below.refl _ _).alloc (Nat.le_refl _) _, by simp⟩
      exact IsCur.made HB.out hm _ _

set_option maxRecDepth 100000 in
set_option maxHeartbeats 400000 in
theorem odd_any (p : Nat) (a : Option Addr) (len cap : Nat) (w : World) (hc : Cur w p a len cap) :
    Calls Try.prog 67 #[.pointer (some ⟨p, 0, none⟩)] w fun e w' => ∃ z : Int, e = .returned (.int .i64 z) ∧ I64 z ∧ Cur w' p a len cap ∧ Turns p w w' := by
  have hp := hc.lt
  go_enter Try.func67, Try.ntmps67
  go_wp2_with fail
  refine (int_any p a len cap _ 0 14 14 I64 _ (hc.alloc _) (ints_made [-1, 0, 1, 2, 255, 256, 65535, 2147483647, 2147483648, 4294967295, 4294967296, -2147483648, 9223372036854775807, -9223372036854775808] _ _ _ _ hp (by intro z hz; unfold I64; simp at hz; omega)) (by omega) (by omega)).mono ?_
  rintro e w1 ⟨z, rfl, hz, hc1, ht1⟩
  go_wp2_with fail
  go_ret
  exact ⟨z, rfl, hz, hc1, ((Turns.refl _ _).alloc _).trans ht1⟩

set_option maxRecDepth 100000 in
set_option maxHeartbeats 800000 in
theorem num_any (p : Nat) (a : Option Addr) (len cap : Nat) (w : World) (hc : Cur w p a len cap) :
    Calls Try.prog 63 #[.pointer (some ⟨p, 0, none⟩)] w fun e w' => ∃ z : Int, e = .returned (.int .i64 z) ∧ (0 ≤ z ∧ z ≤ 1000000000000) ∧ Cur w' p a len cap ∧ Turns p w w' := by
  have hp := hc.lt
  go_enter Try.func63, Try.ntmps63
  go_wp2_with fail
  refine (below_any p a len cap 4 _ hc (by omega) (by omega)).mono ?_
  rintro e w1 ⟨x, rfl, x0, x1, hc1, ht1⟩
  have hp1 := hc1.lt
  by_cases e0 : x = 0
  · subst e0
    go_wp2_with fail
    refine (below_any p a len cap 2000 _ hc1 (by omega) (by omega)).mono ?_
    rintro e w2 ⟨y, rfl, y0, y1, hc2, ht2⟩
    go_wp2_with fail
    go_ret
    exact ⟨_, rfl, ⟨y0, by omega⟩, hc2, ht1.trans ht2⟩
  have b0 : (x == 0) = false := by simp; exact e0
  by_cases e1 : x = 1
  · subst e1
    go_wp2_with fail
    refine (int_any p a len cap _ 0 7 7 (fun z => 0 ≤ z ∧ z ≤ 1000000000000) _ (hc1.alloc _) (ints_made [0, 1, 127, 128, 2147483646, 2147483647, 1000000000000] _ _ _ _ hp1 (by intro z hz; simp at hz; omega)) (by omega) (by omega)).mono ?_
    rintro e w2 ⟨y, rfl, hy, hc2, ht2⟩
    go_wp2_with fail
    go_ret
    exact ⟨_, rfl, hy, hc2, ht1.trans (((Turns.refl _ _).alloc _).trans ht2)⟩
  have b1 : (x == 1) = false := by simp; exact e1
  by_cases e2 : x = 2
  · subst e2
    go_wp2_with fail
    refine (below_any p a len cap 1000000 _ hc1 (by omega) (by omega)).mono ?_
    rintro e w2 ⟨y, rfl, y0, y1, hc2, ht2⟩
    go_wp2_with fail
    refine (below_any p a len cap 1000000 _ hc2 (by omega) (by omega)).mono ?_
    rintro e w3 ⟨v, rfl, v0, v1, hc3, ht3⟩
    have hmul : y * v ≤ 1000000 * 1000000 := Int.mul_le_mul (by omega) (by omega) v0 (by omega)
    have hmul0 : 0 ≤ y * v := Int.mul_nonneg y0 v0
    go_wp2_with fail
    go_ret
    exact ⟨_, rfl, ⟨hmul0, by omega⟩, hc3, (ht1.trans ht2).trans ht3⟩
  · have b2 : (x == 2) = false := by simp; exact e2
    go_wp2_with fail
    refine (below_any p a len cap 20 _ hc1 (by omega) (by omega)).mono ?_
    rintro e w2 ⟨y, rfl, y0, y1, hc2, ht2⟩
    go_wp2_with fail
    go_ret
    exact ⟨_, rfl, ⟨y0, by omega⟩, hc2, ht1.trans ht2⟩

set_option maxRecDepth 100000 in
set_option maxHeartbeats 400000 in
theorem raw_any (p : Nat) (a : Option Addr) (len cap : Nat) (w : World) (hc : Cur w p a len cap) :
    Calls Try.prog 62 #[.pointer (some ⟨p, 0, none⟩)] w fun e w' => ∃ z : Int, e = .returned (.int .i64 z) ∧ I64 z ∧ Cur w' p a len cap ∧ Turns p w w' := by
  go_enter Try.func62, Try.ntmps62
  go_wp2_with fail
  refine (once_any p a len cap 2 _ hc (by omega) (by omega)).mono ?_
  rintro e w1 ⟨b, rfl, hc1, ht1⟩
  have hp1 := hc1.lt
  cases b
  · go_wp2_with fail
    refine (int_any p a len cap _ 0 3 3 I64 _ (hc1.alloc _) (ints_made [-1, 1000000000000, 1000000000001] _ _ _ _ hp1 (by intro z hz; unfold I64; simp at hz; omega)) (by omega) (by omega)).mono ?_
    rintro e w2 ⟨y, rfl, hy, hc2, ht2⟩
    go_wp2_with fail
    go_ret
    exact ⟨_, rfl, hy, hc2, ht1.trans (((Turns.refl _ _).alloc _).trans ht2)⟩
  · go_wp2_with fail
    refine (odd_any p a len cap _ hc1).mono ?_
    rintro e w2 ⟨y, rfl, hy, hc2, ht2⟩
    go_wp2_with fail
    go_ret
    exact ⟨_, rfl, hy, hc2, ht1.trans ht2⟩

set_option maxRecDepth 100000 in
set_option maxHeartbeats 400000 in
theorem one_any (p : Nat) (a : Option Addr) (len cap : Nat) (w : World) (hc : Cur w p a len cap) :
    Calls Try.prog 50 #[.pointer (some ⟨p, 0, none⟩)] w fun e w' => ∃ z : Int, e = .returned (.int .i64 z) ∧ I64 z ∧ Cur w' p a len cap ∧ Turns p w w' := by
  go_enter Try.func50, Try.ntmps50
  go_wp2_with fail
  refine (once_any p a len cap 6 _ hc (by omega) (by omega)).mono ?_
  rintro e w1 ⟨b, rfl, hc1, ht1⟩
  cases b
  · go_wp2_with fail
    refine (num_any p a len cap _ hc1).mono ?_
    rintro e w2 ⟨y, rfl, hy, hc2, ht2⟩
    go_wp2_with fail
    go_ret
    exact ⟨_, rfl, ⟨by omega, by omega⟩, hc2, ht1.trans ht2⟩
  · go_wp2_with fail
    refine (raw_any p a len cap _ hc1).mono ?_
    rintro e w2 ⟨y, rfl, hy, hc2, ht2⟩
    go_wp2_with fail
    go_ret
    exact ⟨_, rfl, hy, hc2, ht1.trans ht2⟩
end Go.Proofs.Ytoikcfakailegaa
