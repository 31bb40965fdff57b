
/- Segment: rows of them: the laws' marks. -/
import Derived.Test.YtdlafigjkefllaaNSegment
import Derived.Test.YtdlafigjkefllaaPHop
import Derived.Test.YtdlafigjkefllaaRow
namespace Go.Proofs.Ytdlafigjkefllaa
open Go.ChangeShapes Go.WideShapes Go.ChangeAt Go.RowKit
set_option linter.unusedVariables false
/-- An element that may be marked: its numbers, the head of its row, the row. -/
def pmSegment (w : World) (mid hi b o : Nat) (m : Nat) : Prop := (∃ v, w.cell? ⟨b, o, none⟩ = some v ∧ w.frozen? ⟨b, o, none⟩ = false) ∧ (∃ v, w.cell? ⟨b, o + 1, none⟩ = some v ∧ w.frozen? ⟨b, o + 1, none⟩ = false) ∧ ∃ g, w.cell? ⟨b, o + 2, none⟩ = some (.slice (some ⟨g, 0, none⟩) m m) ∧ (0 < m → mid ≤ g ∧ g < hi) ∧ Fill w g 0 (m * 5) 0 (fun _ => undef)
theorem pmSegment_of {w : World} {mid hi b o : Nat} {x : TSegment} (h : owSegment w mid hi b o x) : pmSegment w mid hi b o x.hops.length := by
  obtain ⟨g, n3, l3, h3, ⟨k0, f0⟩, ⟨k1, f1⟩, ⟨k2, f2⟩, r, p, q, t⟩ := h
  obtain rfl : x.hops.length = n3 := r.1
  refine ⟨⟨_, k0, f0⟩, ⟨_, k1, f1⟩, g, k2, fun h0 => ?_, r.fill _⟩
  obtain ⟨b', off', e, h1, h2, _⟩ := r.2 h0
  simp only [Option.some.injEq, Addr.mk.injEq, and_true] at e
  obtain ⟨rfl, rfl⟩ := e
  omega
theorem pmSegment_set {w : World} {mid hi b o m : Nat} (h : pmSegment w mid hi b o m) (q r : Nat) (u : Value) (hr : q ≠ b ∨ r ≠ o + 2) : pmSegment (w.setCell ⟨q, r, none⟩ u) mid hi b o m := by
  obtain ⟨⟨v0, k0, f0⟩, ⟨v1, k1, f1⟩, g, kg, hg, hF⟩ := h
  exact ⟨⟨(Shp.set w ⟨q, r, none⟩ u _ _ _ k0 f0).1.choose, (Shp.set w ⟨q, r, none⟩ u _ _ _ k0 f0).1.choose_spec, (Shp.set w ⟨q, r, none⟩ u _ _ _ k0 f0).2⟩, ⟨(Shp.set w ⟨q, r, none⟩ u _ _ _ k1 f1).1.choose, (Shp.set w ⟨q, r, none⟩ u _ _ _ k1 f1).1.choose_spec, (Shp.set w ⟨q, r, none⟩ u _ _ _ k1 f1).2⟩, g, cell_set kg _ _ (by simp only; omega), hg, hF.put _ _⟩
theorem pmSegment_call {w w' : World} {mid hi b o m : Nat} (h : pmSegment w mid hi b o m) (hb : b < mid) (s : Shp w w') (k : Mk mid hi w w') : pmSegment w' mid hi b o m := by
  obtain ⟨⟨v0, k0, f0⟩, ⟨v1, k1, f1⟩, g, kg, hg, hF⟩ := h
  exact ⟨⟨_, k.cellAtR k0 (.inl hb), frozen_kept f0 k (World.block_lt_of_cell? w _ k0) (.inl hb)⟩, ⟨_, k.cellAtR k1 (.inl hb), frozen_kept f1 k (World.block_lt_of_cell? w _ k1) (.inl hb)⟩, g, k.cellAtR kg (.inl hb), hg, hF.shp s⟩
set_option maxRecDepth 100000 in
set_option maxHeartbeats 4000000 in
theorem markSegmentSN (a : Option Addr) (n c lo hi : Nat) (kz : Int) (zs : List TSegment) (w : World) (h : OwnSegment w lo hi a n zs) (hn : szSegment zs n ≤ 1048576) (h0 : 0 ≤ kz) (h1 : kz ≤ 1073741824) (hh : hi ≤ w.heap.size) :
    Calls Try.prog 21 #[.slice a n c, .int .i64 kz] w fun e w' => e = .returned (.int .i64 (kz + 2 * (n : Int) + 5 * ((sumTo seSegment zs n : Nat) : Int))) ∧ Mk lo hi w w' := by
  have hn0 : n ≤ 1048576 := Nat.le_trans (szSegment_n zs n) hn
  by_cases hz : n = 0
  · subst hz
    go_enter Try.func21, Try.ntmps21
    go_wp2
    refine wp_loop_rounds 1 ?_; rw [rounds_succ]
    go_wp2
    go_ret
    exact ⟨by simp [sumTo], Mk.refl _ _ _⟩
  · obtain ⟨b, off, mid, rfl, hl, hm, hmh, hx⟩ := h.2 (by omega)
    have hP : ∀ i, i < n → pmSegment w mid hi b (off + i * 3) (zs.getD i default).hops.length := fun i hi => pmSegment_of (hx i hi)
    clear hx
    go_enter Try.func21, Try.ntmps21
    go_wp2
    go_loopw [1, 5] (fun q i wr => ∃ k : Nat, k ≤ n ∧ i = .int .i64 k ∧ q = .int .i64 (kz + 2 * (k : Int) + 5 * ((sumTo seSegment zs k : Nat) : Int)) ∧ Hid (∀ i, i < n → pmSegment wr mid hi b (off + i * 3) (zs.getD i default).hops.length) ∧ Mk lo hi w wr) (fun _ i _ => n - (intOf i).toNat)
    case atStart => exact ⟨0, Nat.zero_le _, rfl, by simp [sumTo], hP, Mk.refl _ _ _⟩
    case round =>
      clear hP
      obtain ⟨k, hk, rfl, rfl, hP, hM⟩ := hrel
      have hs1 := sumTo_le seSegment zs hk
      obtain ⟨V, hV⟩ : ∃ V, Hid (V = sumTo seSegment zs k) := ⟨_, rfl⟩
      rw [← hV.out] at hs1
      have hsz : sumTo seSegment zs n ≤ 1048576 := by unfold szSegment at hn; omega
      rw [← hV.out]
      by_cases hlt : k < n
      · have hp := hP.out k hlt
        have hT := sumTo_at seSegment zs hlt
        obtain ⟨N3, hN3⟩ : ∃ N, Hid (N = (zs.getD k default).hops.length) := ⟨_, rfl⟩
        rw [← hN3.out] at hp
        rw [← hV.out, show seSegment (zs.getD k default) = N3 from hN3.out.symm] at hT
        have hVs := Lib.hid (show sumTo seSegment zs (k + 1) = V + N3 by rw [sumTo, ← hV.out, hN3.out]; rfl)
        obtain ⟨⟨v0, k0, f0⟩, ⟨v1, k1, f1⟩, g, kg, hg, hF⟩ := hp
        have hkk := Lib.hid (show ∀ r, r < 2 → ∀ i, i < n → b ≠ b ∨ off + k * 3 + r ≠ off + i * 3 + 2 from fun r hr i hi => .inr (by omega))
        have hFp := hF
        replace hFp := hFp.put ⟨b, off + k * 3, none⟩ (.int .i64 (kz + 2 * (k : Int) + 5 * (V : Int)))
        replace hFp := hFp.put ⟨b, off + k * 3 + 1, none⟩ (.int .i64 (kz + 2 * (k : Int) + 5 * (V : Int) + 1))
        have hlk : lo ≤ mid := by omega
        have hPP := Lib.hid (show ∀ i, i < n → pmSegment (((wr.setCell ⟨b, off + k * 3, none⟩ (.int .i64 (kz + 2 * (k : Int) + 5 * (V : Int)))).setCell ⟨b, off + k * 3 + 1, none⟩ (.int .i64 (kz + 2 * (k : Int) + 5 * (V : Int) + 1)))) mid hi b (off + i * 3) (zs.getD i default).hops.length from fun i hi => (pmSegment_set ((pmSegment_set (hP.out i hi) _ _ _ (hkk.out 0 (by decide) i hi))) _ _ _ (hkk.out 1 (by decide) i hi)))
        have hMM := ((hM.putR ⟨b, off + k * 3, none⟩ (.int .i64 (kz + 2 * (k : Int) + 5 * (V : Int))) hl (Nat.lt_of_lt_of_le hm hmh)).putR ⟨b, off + k * 3 + 1, none⟩ (.int .i64 (kz + 2 * (k : Int) + 5 * (V : Int) + 1)) hl (Nat.lt_of_lt_of_le hm hmh))
        go_wp2_with fail
        refine (markHopP g 0 N3 N3 mid hi _ _ hFp hg (by omega) (by omega) (by omega)).mono ?_
        rintro e w2 ⟨rfl, hS, m2⟩
        have hM2 := hMM.trans (m2.wide (.inr ⟨hlk, Nat.le_refl _⟩))
        have hP2 := Lib.hid (show ∀ i, i < n → pmSegment w2 mid hi b (off + i * 3) (zs.getD i default).hops.length from fun i hi => pmSegment_call (hPP.out i hi) hm hS m2)
        go_wp2_with fail
        go_roundw
        case rel => exact ⟨k + 1, by omega, by go_num, congrArg (Value.int .i64) (by rw [hVs.out]; omega), hP2, hM2⟩
        case measure => simp [intOf]; omega
      · obtain rfl : k = n := by omega
        go_wp2_with fail
        go_ret
        exact ⟨retI (by rw [hV.out]), hM⟩
end Go.Proofs.Ytdlafigjkefllaa
