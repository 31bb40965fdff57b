/- The draws of a string out of a list, and of chapter 1's texts. -/
import Derived.Test.YtkplenmjmnaniaaDoorDrawNum
import Derived.Test.YtkplenmjmnaniaaDoorFmt
import Derived.Lib.ItoaMem
namespace Go.Proofs.YtkplenmjmnaniaaDoor
open Go.ChangeShapes Go.WideShapes Go.ChangeAt Go.RowKit
set_option linter.unusedVariables false

/-- The strings behind a slice: each has Q. -/
def Strs (w : World) (p : Nat) (b off n : Nat) (Q : ByteArray → Prop) : Prop := b ≠ p ∧ b < w.heap.size ∧ ∀ i, i < n → ∃ z : ByteArray, w.cell? ⟨b, off + i, none⟩ = some (.string z) ∧ Q z
theorem strs_made (zs : List ByteArray) (w : World) (p : Nat) (T : TypeId) (Q : ByteArray → Prop) (hp : p < w.heap.size) (hQ : ∀ z ∈ zs, Q z) :
    Strs (w.alloc (.cells (zs.map Value.string).toArray T)) p w.heap.size 0 zs.length Q := by
  refine ⟨by omega, by simp, fun i hi => ⟨zs[i], ?_, hQ _ (List.getElem_mem hi)⟩⟩
  rw [World.cell?_alloc_at _ _ _ _ rfl]
  simp [hi]

set_option maxHeartbeats 400000 in
theorem str_any (p : Nat) (a : Option Addr) (len cap : Nat) (b off n c : Nat) (Q : ByteArray → Prop) (w : World) (hc : Cur w p a len cap) (hi : Strs w p b off n Q) (h0 : 1 ≤ n) (h1 : n ≤ 1000) :
    Calls Tryd.prog 15 #[.pointer (some ⟨p, 0, none⟩), .slice (some ⟨b, off, none⟩) n c] w fun e w' => ∃ z : ByteArray, e = .returned (.string z) ∧ Q z ∧ Cur w' p a len cap ∧ Turns p w w' := by
  obtain ⟨hbp, hbs, hcells⟩ := hi
  have HC := Lib.hid hcells
  clear hcells
  go_enter Tryd.func15, Tryd.ntmps15
  go_wp2_with fail
  refine (below_any p a len cap n _ hc (by omega) (by omega)).mono ?_
  rintro e w1 ⟨x, rfl, x0, x1, hc1, ht1⟩
  obtain ⟨k, rfl⟩ := Int.eq_ofNat_of_zero_le x0
  obtain ⟨z, hz, hQ⟩ := HC.out k (by omega)
  have hz1 : w1.cell? ⟨b, off + k, none⟩ = some (.string z) := by rw [ht1.cell hbs hbp]; exact hz
  clear hz
  have HQ := Lib.hid hQ
  clear hQ
  go_wp2_with fail
  go_ret
  exact ⟨z, rfl, HQ.out, hc1, ht1⟩

theorem drawFormat (a : Option Addr) (len cap : Nat) (w : World) (hb : Bytes8 w w.heap.size a len) (hm : len ≤ 1048576) :
    Calls Tryd.prog 6 #[.slice a len cap] w fun e w' => (∃ z : Int, e = .returned (.int .i64 z) ∧ I64 z) ∧ Below w.heap.size w w' := by
  go_enter Tryd.func6, Tryd.ntmps6
  go_wp2_with fail
  refine (new_any a len cap _ hb hm).mono ?_
  rintro e w1 ⟨rfl, hc1, hb1, hz⟩
  go_wp2_with fail
  refine (one_any _ a len cap _ hc1).mono ?_
  rintro e w2 ⟨x, rfl, hx, hc2, ht2⟩
  go_wp2_with fail
  go_ret
  exact ⟨⟨x, rfl, hx⟩, Below.turns hb1 ht2 (Nat.le_refl _) hb1.size⟩

set_option maxRecDepth 100000 in
set_option maxHeartbeats 400000 in
theorem drawParse (a : Option Addr) (len cap : Nat) (w : World) (hb : Bytes8 w w.heap.size a len) (hm : len ≤ 1048576) :
    Calls Tryd.prog 7 #[.slice a len cap] w fun e w' => (∃ s : ByteArray, e = .returned (.string s) ∧ s.size ≤ 100) ∧ Below w.heap.size w w' := by
  go_enter Tryd.func7, Tryd.ntmps7
  go_wp2_with fail
  refine (new_any a len cap _ hb hm).mono ?_
  rintro e w1 ⟨rfl, hc1, hb1, hz⟩
  go_wp2_with fail
  refine (once_any _ a len cap 2 _ hc1 (by omega) (by omega)).mono ?_
  rintro e w2 ⟨b, rfl, hc2, ht2⟩
  have hp2 := hc2.lt
  cases b
  · go_wp2_with fail
    refine (num_any _ a len cap _ hc2).mono ?_
    rintro e w3 ⟨n, rfl, hn, hc3, ht3⟩
    obtain ⟨n0, n1⟩ := hn
    go_wp2_with fail
    refine (specFormatInt n (by omega) (by omega) _).mono ?_
    rintro e w4 ⟨rfl, hb4⟩
    have hl := Lib.hid (Lib.itoa_length_le n (by omega) (by omega))
    go_wp2_with fail
    go_ret
    refine ⟨⟨_, rfl, ?_⟩, ?_⟩
    · have := hl.out
      show (Lib.itoa n).toArray.size ≤ 100
      simp; omega
    · exact Below.turns (Below.turns hb1 (ht2.trans ht3) (Nat.le_refl _) hb1.size) (Turns.of_below hb4) (Nat.le_refl _) (Nat.le_trans hb1.size (Nat.le_trans ht2.size ht3.size))
  · go_wp2_with fail
    refine (str_any _ a len cap _ 0 11 11 (fun s => s.size ≤ 100) _ (hc2.alloc _) (strs_made [⟨#[]⟩, ⟨#[48]⟩, ⟨#[48, 48]⟩, ⟨#[45, 49]⟩, ⟨#[48, 49]⟩, ⟨#[55]⟩, ⟨#[49, 48, 48, 48, 48, 48, 48, 48, 48, 48, 48, 48, 48]⟩, ⟨#[49, 48, 48, 48, 48, 48, 48, 48, 48, 48, 48, 48, 49]⟩, ⟨#[57, 57, 57, 57, 57, 57, 57, 57, 57, 57, 57, 57, 57, 57]⟩, ⟨#[49, 120]⟩, ⟨#[32, 49]⟩] _ _ _ _ hp2 (by intro z hz; simp at hz; rcases hz with rfl | rfl | rfl | rfl | rfl | rfl | rfl | rfl | rfl | rfl | rfl <;> decide)) (by omega) (by omega)).mono ?_
    rintro e w3 ⟨s, rfl, hs, hc3, ht3⟩
    have HS := Lib.hid hs
    clear hs
    go_wp2_with fail
    go_ret
    exact ⟨⟨s, rfl, HS.out⟩, Below.turns hb1 (ht2.trans (((Turns.refl _ _).alloc _).trans ht3)) (Nat.le_refl _) hb1.size⟩
end Go.Proofs.YtkplenmjmnaniaaDoor
