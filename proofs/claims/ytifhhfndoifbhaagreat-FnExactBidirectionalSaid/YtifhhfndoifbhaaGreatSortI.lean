
/- slices.Sort and slices.Compact of rows of the call's own, by the shelf's contracts. -/
import Derived.Test.YtifhhfndoifbhaaGreatSortM
import Derived.Test.YtifhhfndoifbhaaGreatRow
import Derived.Test.YtifhhfndoifbhaaGreatDig
import Derived.Test.YtifhhfndoifbhaaGreatShelf
namespace Go.Proofs.YtifhhfndoifbhaaGreat
open Go.ChangeShapes Go.WideShapes Go.ChangeAt Go.RowKit
set_option linter.unusedVariables false
open Go.Sort in
theorem mk_put {w : World} {b off q : Nat} {d : Array Int} {os : Array Obj} (hb : b < w.heap.size) : Mk b (b + 1) w (grow (putRow (Value.int .i64) (Sort.ahead w q) b off d) os) := by
  refine ⟨rfl, rfl, rfl, by simp, fun k hk hr => ?_⟩
  rw [heap_grow_old _ _ (by simpa using hk)]
  show ((Sort.ahead w q).heap.modify b _)[k]? = _
  rw [Array.getElem?_modify, if_neg (by omega)]
  rfl
open Go.Sort in
theorem own_holds {w : World} {lo n b off : Nat} {zs : List Int} (h : Own .i64 w lo (some ⟨b, off, none⟩) n zs) (hn : 0 < n) : Holds (Value.int .i64) w b off zs.toArray ∧ lo ≤ b ∧ b < w.heap.size := by
  obtain ⟨b', off', e, hl, hb, hc⟩ := h.2 hn
  simp only [Option.some.injEq, Addr.mk.injEq, and_true] at e
  obtain ⟨rfl, rfl⟩ := e
  refine ⟨fun j hj => ?_, hl, hb⟩
  have hj' : j < n := by have := h.1; simp at hj; omega
  rw [getB]
  exact hc j hj'
open Go.Sort in
theorem holds_own {w : World} {lo b off m q : Nat} {d0 d : List Int} {os : Array Obj} (h : Holds (Value.int .i64) w b off d0.toArray) (hl : lo ≤ b) (hb : b < w.heap.size) (hs : d.length = d0.length) (R : List Int) (hR : ∀ j, j < R.length → R.getD j 0 = d.getD j 0) (hm : R.length = m) (hmd : m ≤ d.length) : Own .i64 (grow (putRow (Value.int .i64) (Sort.ahead w q) b off d.toArray) os) lo (some ⟨b, off, none⟩) m R := by
  refine ⟨hm, fun h0 => ⟨b, off, rfl, hl, by simp; omega, fun j hj => ?_⟩⟩
  have h1 := cell?_putRow (Value.int .i64) (Sort.ahead w q) b off d0.toArray d.toArray (holds_ahead _ w q b off _ h) (by simpa using hs) j (by simp; omega)
  have h2 : (putRow (Value.int .i64) (Sort.ahead w q) b off d.toArray).frozen? ⟨b, off + j, none⟩ = false := by
    rw [frozen?_putRow, frozen?_ahead]
    exact (h j (by simp; omega)).2
  refine ⟨?_, ?_⟩
  · rw [cell?_grow _ _ _ (by simpa using hb), h1, getB, ← hR j (by omega)]
  · rw [frozen?_grow _ _ _ (by simpa using hb)]
    exact h2
theorem implSort (a : Option Addr) (n c lo : Nat) (zs : List Int) (w : World) (h : Own .i64 w lo a n zs) (hn : n ≤ 1073741824) :
    Calls Tryz.prog 62 #[.slice a n c] w fun e w' => e = .returned (.tuple #[]) ∧ Own .i64 w' lo a n (sortL zs) ∧ Mk lo w.heap.size w w' := by
  rcases Nat.eq_zero_or_pos n with h0 | h0
  · subst h0
    obtain rfl : zs = [] := List.eq_nil_of_length_eq_zero h.1
    exact (Tryz.slices_Sort_int_none a c w).mono fun e w' ⟨p, q⟩ => by subst q; exact ⟨p, ⟨by simp [sortL], fun h => absurd h (by omega)⟩, Mk.refl _ _ _⟩
  · obtain ⟨b, off, rfl, _⟩ := h.2 h0
    obtain ⟨hH, hl, hb⟩ := own_holds h h0
    have hc := Tryz.slices_Sort_int b off c zs w hH hb (by have := h.1; omega)
    rw [h.1] at hc
    refine hc.mono fun e w' ⟨p, q, os, hw⟩ => ?_
    subst hw
    exact ⟨p, holds_own hH hl hb (sortL_len zs) _ (fun j hj => rfl) (by rw [sortL_len, h.1]) (by rw [sortL_len, h.1]; exact Nat.le_refl _), (mk_put hb).wide (.inr ⟨hl, by omega⟩)⟩
theorem implCompact (a : Option Addr) (n c lo : Nat) (zs : List Int) (w : World) (h : Own .i64 w lo a n zs) (hn : n ≤ 1073741824) (hc : n ≤ c) :
    Calls Tryz.prog 63 #[.slice a n c] w fun e w' => e = .returned (.slice a (Lib.compact zs).length c) ∧ Own .i64 w' lo a (Lib.compact zs).length (Lib.compact zs) ∧ Mk lo w.heap.size w w' := by
  rcases Nat.eq_zero_or_pos n with h0 | h0
  · subst h0
    obtain rfl : zs = [] := List.eq_nil_of_length_eq_zero h.1
    exact (Tryz.slices_Compact_int_empty a c w).mono fun e w' ⟨p, q⟩ => by subst q; exact ⟨p, ⟨rfl, fun h => absurd h (by show ¬ 0 < 0; omega)⟩, Mk.refl _ _ _⟩
  · obtain ⟨b, off, rfl, _⟩ := h.2 h0
    obtain ⟨hH, hl, hb⟩ := own_holds h h0
    have hq := Tryz.slices_Compact_int b off c zs w hH (by have := h.1; omega) (by have := h.1; omega)
    rw [h.1] at hq
    have hle : (Lib.compact zs).length ≤ zs.length := by
      unfold Lib.compact Lib.compactUpTo
      rw [List.length_map]
      exact Nat.le_trans (List.length_filter_le _ _) (by simp)
    refine hq.mono fun e w' ⟨p, q, hw⟩ => ?_
    subst hw
    have := holds_own (q := q) (os := #[]) (lo := lo) (d := Lib.compact zs ++ List.replicate (n - (Lib.compact zs).length) 0) hH hl hb (by rw [List.length_append, List.length_replicate]; have := h.1; omega) (Lib.compact zs) (fun j hj => by rw [List.getD_eq_getElem?_getD, List.getD_eq_getElem?_getD, List.getElem?_append_left hj]) rfl (by rw [List.length_append]; omega)
    have hm := mk_put (q := q) (off := off) (d := (Lib.compact zs ++ List.replicate (n - (Lib.compact zs).length) 0).toArray) (os := #[]) hb
    rw [Sort.grow_empty] at this hm
    exact ⟨p, this, hm.wide (.inr ⟨hl, by omega⟩)⟩
end Go.Proofs.YtifhhfndoifbhaaGreat
