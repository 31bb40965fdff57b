/- The draws' cursor: what it holds, and that each draw returns a number in its range and writes into nothing but the cursor. -/
import Derived.Test.YtoikcfakailegaaRows
import Derived.Test.YtoikcfakailegaaBase
import Derived.WalkKit
import Derived.Handy
import Derived.Outline
import Derived.Lib.Hide
import Derived.Below
import Derived.Deep.QuietTactic
import Derived.BigQuiet
namespace Go.Proofs.Ytoikcfakailegaa
open Go.ChangeShapes Go.WideShapes Go.ChangeAt Go.RowKit
set_option linter.unusedVariables false

/-- w' is w with new blocks, draws made, and block p written. -/
structure Turns (p : Nat) (w w' : World) : Prop where
  os : w'.os = w.os
  tape : w'.tape = w.tape
  output : w'.output = w.output
  size : w.heap.size ≤ w'.heap.size
  block : ∀ k, k < w.heap.size → k ≠ p → w'.heap[k]? = w.heap[k]?
theorem Turns.refl (p : Nat) (w : World) : Turns p w w := ⟨rfl, rfl, rfl, Nat.le_refl _, fun _ _ _ => rfl⟩
theorem Turns.trans {p : Nat} {a b c : World} (h : Turns p a b) (k : Turns p b c) : Turns p a c :=
  ⟨k.os.trans h.os, k.tape.trans h.tape, k.output.trans h.output, Nat.le_trans h.size k.size, fun i hi hp => (k.block i (Nat.lt_of_lt_of_le hi h.size) hp).trans (h.block i hi hp)⟩
theorem Turns.drew {p : Nat} {a w : World} (h : Turns p a w) : Turns p a w.drew := ⟨h.os, h.tape, h.output, h.size, h.block⟩
theorem Turns.alloc {p : Nat} {a w : World} (h : Turns p a w) (o : Obj) : Turns p a (w.alloc o) :=
  ⟨h.os, h.tape, h.output, Nat.le_trans h.size (by show w.heap.size ≤ (w.heap.push _).size; simp), fun i hi hp => (Below.heap_alloc w o i (Nat.lt_of_lt_of_le hi h.size)).trans (h.block i hi hp)⟩
theorem Turns.setCell {p : Nat} {a w : World} (h : Turns p a w) {q : Addr} (hq : q.block = p) (u : Value) : Turns p a (w.setCell q u) :=
  ⟨h.os, h.tape, h.output, Nat.le_trans h.size (by simp [World.setCell]), fun i hi hp => (Below.heap_setCell w q u i (by rw [hq]; exact hp)).trans (h.block i hi hp)⟩
theorem Below.turns {B p : Nat} {a w w' : World} (h : Below B a w) (k : Turns p w w') (hp : B ≤ p) (hB : B ≤ w.heap.size) : Below B a w' :=
  ⟨k.os.trans h.os, k.tape.trans h.tape, k.output.trans h.output, Nat.le_trans h.size k.size, fun i hi => (k.block i (Nat.lt_of_lt_of_le hi hB) (by omega)).trans (h.block i hi)⟩
theorem Turns.of_below {p : Nat} {w w' : World} (h : Below w.heap.size w w') : Turns p w w' := ⟨h.os, h.tape, h.output, h.size, fun i hi _ => h.block i hi⟩
theorem Turns.cell {p : Nat} {w w' : World} (h : Turns p w w') {q : Addr} (hq : q.block < w.heap.size) (hp : q.block ≠ p) : w'.cell? q = w.cell? q := World.cell?_of_block (w := w) (h.block q.block hq hp)
theorem Turns.frozen {p : Nat} {w w' : World} (h : Turns p w w') {q : Addr} (hq : q.block < w.heap.size) (hp : q.block ≠ p) : w'.frozen? q = w.frozen? q := World.frozen?_of_block (w := w) (h.block q.block hq hp)

/-- The bytes behind a slice, as far as its length: each is there and is a byte. -/
def Bytes8 (w : World) (p : Nat) (a : Option Addr) (len : Nat) : Prop :=
  len = 0 ∨ ∃ b off, a = some ⟨b, off, none⟩ ∧ b ≠ p ∧ b < w.heap.size ∧ ∀ i, i < len → ∃ n : Int, w.cell? ⟨b, off + i, none⟩ = some (.int .u8 n) ∧ 0 ≤ n ∧ n ≤ 255

/-- Block p is a cursor over such bytes. -/
structure IsCur (w : World) (p : Nat) (a : Option Addr) (len cap : Nat) (i : Nat) (h : Int) : Prop where
  c0 : w.cell? ⟨p, 0, none⟩ = some (.slice a len cap)
  c1 : w.cell? ⟨p, 1, none⟩ = some (.int .i64 (i : Int))
  c2 : w.cell? ⟨p, 2, none⟩ = some (.int .i64 h)
  f1 : w.frozen? ⟨p, 1, none⟩ = false
  f2 : w.frozen? ⟨p, 2, none⟩ = false
  le : i ≤ len
  max : len ≤ 1048576
  bytes : Bytes8 w p a len

theorem Turns.drewN {p : Nat} {a w : World} (h : Turns p a w) (k : Nat) : Turns p a (w.drewN k) := ⟨h.os, h.tape, h.output, h.size, h.block⟩

theorem Bytes8.turn {w w' : World} {p : Nat} {a : Option Addr} {len : Nat} (h : Bytes8 w p a len) (k : Turns p w w') : Bytes8 w' p a len := by
  rcases h with h | ⟨b, off, rfl, hbp, hbs, hc⟩
  · exact .inl h
  · refine .inr ⟨b, off, rfl, hbp, Nat.lt_of_lt_of_le hbs k.size, fun i hi => ?_⟩
    obtain ⟨n, hn, hr⟩ := hc i hi
    exact ⟨n, by rw [k.cell hbs hbp]; exact hn, hr⟩

theorem IsCur.more {w : World} {p : Nat} {a : Option Addr} {len cap i : Nat} {h : Int} (c : IsCur w p a len cap i h) (hi : i < len) (h' : Int) (k : Nat) :
    IsCur (((w.setCell { block := p, off := 2 } (.int .i64 h')).drewN k).setCell { block := p, off := 1 } (.int .i64 ((i : Int) + 1))) p a len cap (i + 1) h' := by
  obtain ⟨c0, c1, c2, f1, f2, hle, hmax, hb⟩ := c
  refine ⟨?_, ?_, ?_, ?_, ?_, hi, hmax, hb.turn (Turns.setCell (Turns.drewN (Turns.setCell (Turns.refl p w) rfl _) _) rfl _)⟩
  · go_cell
  · go_cell
  · go_cell
  · go_cell
  · go_cell

set_option maxRecDepth 100000 in
set_option maxHeartbeats 800000 in
theorem byte_more (p : Nat) (a : Option Addr) (len cap : Nat) (i : Nat) (h : Int) (w : World) (hc : IsCur w p a len cap i h) (hlt : i < len) :
    Calls Try.prog 64 #[.pointer (some ⟨p, 0, none⟩)] w fun e w' => ∃ x : Int, e = .returned (.int .i64 x) ∧ 0 ≤ x ∧ x ≤ 255 ∧ (∃ i h, IsCur w' p a len cap i h) ∧ Turns p w w' := by
  obtain ⟨c0, c1, c2, f1, f2, hle, hmax, hb⟩ := hc
  rcases hb with h0 | ⟨b, off, rfl, hbp, hbs, hbytes⟩
  · omega
  obtain ⟨n, hn, hn0, hn1⟩ := hbytes i hlt
  have HB := Lib.hid hbytes
  clear hbytes
  go_enter Try.func64, Try.ntmps64
  go_wp2
  go_quiet (fail)
  go_wp2
  go_quiet (fail)
  go_wp2
  go_quiet (fail)
  go_wp2
  go_ret
  refine ⟨_, rfl, (and255_range _).1, (and255_range _).2, ⟨i + 1, wrap64 (wrap64 (h * 6364136223846793005) + 1442695040888963407), ?_⟩, ?_⟩
  · exact IsCur.more ⟨c0, c1, c2, f1, f2, hle, hmax, .inr ⟨b, off, rfl, hbp, hbs, HB.out⟩⟩ hlt _ _
  · exact Turns.setCell (Turns.drewN (Turns.setCell (Turns.refl p w) rfl _) _) rfl _

theorem IsCur.stay {w : World} {p : Nat} {a : Option Addr} {len cap i : Nat} {h : Int} (c : IsCur w p a len cap i h) (h' : Int) (k l : Nat) :
    IsCur (((w.setCell { block := p, off := 2 } (.int .i64 h')).drewN k).drewN l) p a len cap i h' := by
  obtain ⟨c0, c1, c2, f1, f2, hle, hmax, hb⟩ := c
  refine ⟨?_, ?_, ?_, ?_, ?_, hle, hmax, hb.turn (Turns.drewN (Turns.drewN (Turns.setCell (Turns.refl p w) rfl _) _) _)⟩
  · go_cell
  · go_cell
  · go_cell
  · go_cell
  · go_cell

set_option maxRecDepth 100000 in
set_option maxHeartbeats 800000 in
theorem byte_end (p : Nat) (a : Option Addr) (len cap : Nat) (h : Int) (w : World) (hc : IsCur w p a len cap len h) :
    Calls Try.prog 64 #[.pointer (some ⟨p, 0, none⟩)] w fun e w' => ∃ x : Int, e = .returned (.int .i64 x) ∧ 0 ≤ x ∧ x ≤ 255 ∧ (∃ i h, IsCur w' p a len cap i h) ∧ Turns p w w' := by
  have H := Lib.hid hc
  obtain ⟨c0, c1, c2, f1, f2, hle, hmax, hb⟩ := hc
  clear hb
  go_enter Try.func64, Try.ntmps64
  go_wp2
  go_quiet (fail)
  go_wp2
  go_quiet (fail)
  go_wp2
  go_ret
  refine ⟨_, rfl, (and255_range _).1, (and255_range _).2, ⟨len, wrap64 (wrap64 (h * 6364136223846793005) + 1442695040888963407), H.out.stay _ _ _⟩, ?_⟩
  exact Turns.drewN (Turns.drewN (Turns.setCell (Turns.refl p w) rfl _) _) _

/-- Block p is a cursor over these bytes, wherever it stands. -/
def Cur (w : World) (p : Nat) (a : Option Addr) (len cap : Nat) : Prop := ∃ i h, IsCur w p a len cap i h

theorem byte_any (p : Nat) (a : Option Addr) (len cap : Nat) (w : World) (hc : Cur w p a len cap) :
    Calls Try.prog 64 #[.pointer (some ⟨p, 0, none⟩)] w fun e w' => ∃ x : Int, e = .returned (.int .i64 x) ∧ 0 ≤ x ∧ x ≤ 255 ∧ Cur w' p a len cap ∧ Turns p w w' := by
  obtain ⟨i, h, hc⟩ := hc
  by_cases hi : i < len
  · exact byte_more p a len cap i h w hc hi
  · obtain rfl : i = len := by have := hc.le; omega
    exact byte_end p a i cap h w hc

set_option maxRecDepth 100000 in
set_option maxHeartbeats 400000 in
theorem below_any (p : Nat) (a : Option Addr) (len cap : Nat) (n : Int) (w : World) (hc : Cur w p a len cap) (h0 : 1 ≤ n) (h1 : n ≤ 16777216) :
    Calls Try.prog 52 #[.pointer (some ⟨p, 0, none⟩), .int .i64 n] w fun e w' => ∃ x : Int, e = .returned (.int .i64 x) ∧ 0 ≤ x ∧ x < n ∧ Cur w' p a len cap ∧ Turns p w w' := by
  by_cases hs : n ≤ 256
  · go_enter Try.func52, Try.ntmps52
    go_wp2_with fail
    refine (byte_any p a len cap _ hc).mono ?_
    rintro e w1 ⟨x, rfl, x0, x1, hc1, ht1⟩
    go_wp2_with fail
    go_ret
    exact ⟨_, rfl, Int.emod_nonneg _ (by omega), Int.emod_lt_of_pos _ (by omega), hc1, ht1⟩
  · go_enter Try.func52, Try.ntmps52
    go_wp2_with fail
    refine (byte_any p a len cap _ hc).mono ?_
    rintro e w1 ⟨x, rfl, x0, x1, hc1, ht1⟩
    go_wp2_with fail
    refine (byte_any p a len cap _ hc1).mono ?_
    rintro e w2 ⟨y, rfl, y0, y1, hc2, ht2⟩
    go_wp2_with fail
    refine (byte_any p a len cap _ hc2).mono ?_
    rintro e w3 ⟨z, rfl, z0, z1, hc3, ht3⟩
    go_wp2_with fail
    go_ret
    exact ⟨_, rfl, Int.emod_nonneg _ (by omega), Int.emod_lt_of_pos _ (by omega), hc3, (ht1.trans ht2).trans ht3⟩

set_option maxHeartbeats 400000 in
theorem once_any (p : Nat) (a : Option Addr) (len cap : Nat) (n : Int) (w : World) (hc : Cur w p a len cap) (h0 : 1 ≤ n) (h1 : n ≤ 16777216) :
    Calls Try.prog 60 #[.pointer (some ⟨p, 0, none⟩), .int .i64 n] w fun e w' => ∃ b : Bool, e = .returned (.bool b) ∧ Cur w' p a len cap ∧ Turns p w w' := by
  go_enter Try.func60, Try.ntmps60
  go_wp2_with fail
  refine (below_any p a len cap n _ hc h0 h1).mono ?_
  rintro e w1 ⟨x, rfl, x0, x1, hc1, ht1⟩
  go_wp2_with fail
  go_ret
  exact ⟨_, rfl, hc1, ht1⟩

/-- The integers behind a slice: each has Q. -/
def Ints (w : World) (p : Nat) (b off n : Nat) (Q : Int → Prop) : Prop := b ≠ p ∧ b < w.heap.size ∧ ∀ i, i < n → ∃ z : Int, w.cell? ⟨b, off + i, none⟩ = some (.int .i64 z) ∧ Q z

set_option maxHeartbeats 400000 in
theorem int_any (p : Nat) (a : Option Addr) (len cap : Nat) (b off n c : Nat) (Q : Int → Prop) (w : World) (hc : Cur w p a len cap) (hi : Ints w p b off n Q) (h0 : 1 ≤ n) (h1 : n ≤ 1000) :
    Calls Try.prog 61 #[.pointer (some ⟨p, 0, none⟩), .slice (some ⟨b, off, none⟩) n c] w fun e w' => ∃ z : Int, e = .returned (.int .i64 z) ∧ Q z ∧ Cur w' p a len cap ∧ Turns p w w' := by
  obtain ⟨hbp, hbs, hcells⟩ := hi
  have HC := Lib.hid hcells
  clear hcells
  go_enter Try.func61, Try.ntmps61
  go_wp2_with fail
  refine (below_any p a len cap n _ hc (by omega) (by omega)).mono ?_
  rintro e w1 ⟨x, rfl, x0, x1, hc1, ht1⟩
  obtain ⟨k, rfl⟩ := Int.eq_ofNat_of_zero_le x0
  obtain ⟨z, hz, hQ⟩ := HC.out k (by omega)
  have hz1 : w1.cell? ⟨b, off + k, none⟩ = some (.int .i64 z) := by rw [ht1.cell hbs hbp]; exact hz
  clear hz
  have HQ := Lib.hid hQ
  clear hQ
  go_wp2_with fail
  go_ret
  exact ⟨z, rfl, HQ.out, hc1, ht1⟩

theorem IsRow.bytes8 {w : World} {a : Option Addr} {len cap : Nat} {zs : List Int} (h : IsRow .u8 w a len cap zs) : Bytes8 w w.heap.size a len := by
  rcases h with ⟨rfl, rfl, rfl, rfl⟩ | ⟨x, rfl, hl, hm, hz, hc, hw⟩
  · exact .inl rfl
  · by_cases h0 : len = 0
    · exact .inl h0
    · obtain ⟨b, off, spot⟩ := x
      have c0 := hc 0 (by omega)
      obtain rfl : spot = none := by simpa [Addr.add] using World.cell?_spot c0
      have hlt : b < w.heap.size := by
        rcases Nat.lt_or_ge b w.heap.size with h' | h'
        · exact h'
        · have c1 := c0
          unfold World.cell? at c1
          rw [Array.getElem?_eq_none (by simpa [Addr.add] using h')] at c1
          simp at c1
      refine .inr ⟨b, off, rfl, by omega, hlt, fun i hi => ⟨zs.getD i 0, ?_, ?_⟩⟩
      · have := hc i (by omega)
        rw [add_plain] at this
        exact this
      · have hm : zs.getD i 0 ∈ zs := by
          rw [List.getD_eq_getElem?_getD, List.getElem?_eq_getElem (by omega)]
          exact List.getElem_mem _
        exact u8_of (hw _ hm)

theorem Bytes8.next {w w' : World} {a : Option Addr} {len : Nat} (h : Bytes8 w w.heap.size a len) (k : Below w.heap.size w w') : Bytes8 w' w'.heap.size a len := by
  rcases h.turn (Turns.of_below k) with h | ⟨b, off, rfl, hbp, hbs, hc⟩
  · exact .inl h
  · exact .inr ⟨b, off, rfl, by omega, hbs, hc⟩
end Go.Proofs.Ytoikcfakailegaa
