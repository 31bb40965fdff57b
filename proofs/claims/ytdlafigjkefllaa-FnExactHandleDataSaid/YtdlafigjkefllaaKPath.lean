
/- What may be written stays so, whatever is written. -/
import Derived.Test.YtdlafigjkefllaaRow
import Derived.Test.YtdlafigjkefllaaSHop
import Derived.Test.YtdlafigjkefllaaNPathPart
import Derived.Test.YtdlafigjkefllaaCPath
namespace Go.Proofs.Ytdlafigjkefllaa
open Go Go.RowKit
set_option linter.unusedVariables false
/-- What lay there and could be written lies there and can be. -/
def Shp (w w' : World) : Prop := ∀ b o v, w.cell? ⟨b, o, none⟩ = some v → w.frozen? ⟨b, o, none⟩ = false → (∃ v', w'.cell? ⟨b, o, none⟩ = some v') ∧ w'.frozen? ⟨b, o, none⟩ = false
theorem Shp.refl (w : World) : Shp w w := fun _ _ _ h f => ⟨⟨_, h⟩, f⟩
theorem Shp.trans {w w' w'' : World} (h : Shp w w') (k : Shp w' w'') : Shp w w'' := fun b o v hv hf => by
  obtain ⟨⟨v', h1⟩, h2⟩ := h b o v hv hf
  exact k b o v' h1 h2
theorem Shp.set (w : World) (p : Addr) (u : Value) : Shp w (w.setCell p u) := fun b o v hv hf => by
  refine ⟨?_, by rw [World.frozen?_setCell]; exact hf⟩
  by_cases e : p = ⟨b, o, none⟩
  · subst e; exact ⟨u, World.cell?_setCell_same _ _ _ hv⟩
  · exact ⟨v, by rw [World.cell?_setCell_other _ _ _ _ e]; exact hv⟩
theorem Shp.mk {w w' : World} (m : Mk0 w w') : Shp w w' := fun _ _ _ hv hf => ⟨⟨_, m.cellAt hv⟩, m.frozenAt hv hf⟩
theorem Fill.shp {w w' : World} {b off n : Nat} {f : Nat → Value} (h : Fill w b off n 0 f) (s : Shp w w') : Fill w' b off n 0 f := fun j hj => by
  obtain ⟨v, h1, h2, _⟩ := h j hj
  obtain ⟨⟨v', h3⟩, h4⟩ := s _ _ _ h1 h2
  exact ⟨v', h3, h4, fun hlt => absurd hlt (by omega)⟩
end Go.Proofs.Ytdlafigjkefllaa
namespace Go.Proofs.Ytdlafigjkefllaa
open Go.ChangeShapes Go.WideShapes Go.ChangeAt Go.RowKit
set_option linter.unusedVariables false
set_option maxRecDepth 100000 in
set_option maxHeartbeats 4000000 in
theorem markHopP (b off n c lo hi : Nat) (k0 : Int) (w : World) (hF : Fill w b off (n * 5) 0 (fun _ => undef)) (hlb : 0 < n → lo ≤ b ∧ b < hi) (hn : n ≤ 1048576) (h0 : 0 ≤ k0) (h1 : k0 ≤ 1099511627776) :
    Calls Try.prog 43 #[.slice (some ⟨b, off, none⟩) n c, .int .i64 k0] w fun e w' => e = .returned (.int .i64 (k0 + 5 * n)) ∧ Shp w w' ∧ Mk lo hi w w' := by
  go_enter Try.func43, Try.ntmps43
  go_wp2
  go_loopw [1, 5] (fun q i wr => ∃ k : Nat, k ≤ n ∧ i = .int .i64 k ∧ q = .int .i64 (k0 + 5 * k) ∧ Fill wr b off (n * 5) 0 (fun _ => undef) ∧ Shp w wr ∧ Mk lo hi w wr) (fun _ i _ => n - (intOf i).toNat)
  case atStart => exact ⟨0, Nat.zero_le _, rfl, by simp, hF, Shp.refl _, Mk.refl _ _ _⟩
  case round =>
    clear hF
    obtain ⟨k, hk, rfl, rfl, hF, hS, hM⟩ := hrel
    by_cases hlt : k < n
    · obtain ⟨hl, hb⟩ := hlb (by omega)
      obtain ⟨v0, hv0, hf0⟩ := hF.any (k * 5) (by omega)
      obtain ⟨v1, hv1, hf1⟩ := hF.any (k * 5 + 1) (by omega)
      rw [← Nat.add_assoc] at hv1 hf1
      obtain ⟨v2, hv2, hf2⟩ := hF.any (k * 5 + 2) (by omega)
      rw [← Nat.add_assoc] at hv2 hf2
      obtain ⟨v3, hv3, hf3⟩ := hF.any (k * 5 + 3) (by omega)
      rw [← Nat.add_assoc] at hv3 hf3
      obtain ⟨v4, hv4, hf4⟩ := hF.any (k * 5 + 4) (by omega)
      rw [← Nat.add_assoc] at hv4 hf4
      go_wp2
      go_roundw
      case rel => exact ⟨k + 1, by omega, by go_num, by go_num, (((((hF.put _ _).put _ _).put _ _).put _ _).put _ _), (((((hS.trans (Shp.set _ _ _)).trans (Shp.set _ _ _)).trans (Shp.set _ _ _)).trans (Shp.set _ _ _)).trans (Shp.set _ _ _)), (((((hM.putR _ _ hl hb).putR _ _ hl hb).putR _ _ hl hb).putR _ _ hl hb).putR _ _ hl hb)⟩
      case measure => simp [intOf]; omega
    · obtain rfl : k = n := by omega
      go_wp2
      go_ret
      exact ⟨rfl, hS, hM⟩
end Go.Proofs.Ytdlafigjkefllaa
namespace Go.Proofs.Ytdlafigjkefllaa
open Go.ChangeShapes Go.WideShapes Go.ChangeAt Go.RowKit
set_option linter.unusedVariables false
/-- An element that may be marked: its numbers, the head of its row, the row. -/
def pmPathPart (w : World) (mid hi b o : Nat) (m : Nat) : Prop := (∃ v, w.cell? ⟨b, o, none⟩ = some v ∧ w.frozen? ⟨b, o, none⟩ = false) ∧ (∃ v, w.cell? ⟨b, o + 1, none⟩ = some v ∧ w.frozen? ⟨b, o + 1, none⟩ = false) ∧ (∃ v, w.cell? ⟨b, o + 2, none⟩ = some v ∧ w.frozen? ⟨b, o + 2, none⟩ = false) ∧ ∃ g, w.cell? ⟨b, o + 3, none⟩ = some (.slice (some ⟨g, 0, none⟩) m m) ∧ (0 < m → mid ≤ g ∧ g < hi) ∧ Fill w g 0 (m * 5) 0 (fun _ => undef)
theorem pmPathPart_of {w : World} {mid hi b o : Nat} {x : TPathPart} (h : owPathPart w mid hi b o x) : pmPathPart w mid hi b o x.hops.length := by
  obtain ⟨g, n3, l3, h3, ⟨k0, f0⟩, ⟨k1, f1⟩, ⟨k2, f2⟩, ⟨k3, f3⟩, r, p, q, t⟩ := h
  obtain rfl : x.hops.length = n3 := r.1
  refine ⟨⟨_, k0, f0⟩, ⟨_, k1, f1⟩, ⟨_, k2, f2⟩, g, k3, fun h0 => ?_, r.fill _⟩
  obtain ⟨b', off', e, h1, h2, _⟩ := r.2 h0
  simp only [Option.some.injEq, Addr.mk.injEq, and_true] at e
  obtain ⟨rfl, rfl⟩ := e
  omega
theorem pmPathPart_set {w : World} {mid hi b o m : Nat} (h : pmPathPart w mid hi b o m) (q r : Nat) (u : Value) (hr : q ≠ b ∨ r ≠ o + 3) : pmPathPart (w.setCell ⟨q, r, none⟩ u) mid hi b o m := by
  obtain ⟨⟨v0, k0, f0⟩, ⟨v1, k1, f1⟩, ⟨v2, k2, f2⟩, g, kg, hg, hF⟩ := h
  exact ⟨⟨(Shp.set w ⟨q, r, none⟩ u _ _ _ k0 f0).1.choose, (Shp.set w ⟨q, r, none⟩ u _ _ _ k0 f0).1.choose_spec, (Shp.set w ⟨q, r, none⟩ u _ _ _ k0 f0).2⟩, ⟨(Shp.set w ⟨q, r, none⟩ u _ _ _ k1 f1).1.choose, (Shp.set w ⟨q, r, none⟩ u _ _ _ k1 f1).1.choose_spec, (Shp.set w ⟨q, r, none⟩ u _ _ _ k1 f1).2⟩, ⟨(Shp.set w ⟨q, r, none⟩ u _ _ _ k2 f2).1.choose, (Shp.set w ⟨q, r, none⟩ u _ _ _ k2 f2).1.choose_spec, (Shp.set w ⟨q, r, none⟩ u _ _ _ k2 f2).2⟩, g, cell_set kg _ _ (by simp only; omega), hg, hF.put _ _⟩
theorem pmPathPart_call {w w' : World} {mid hi b o m : Nat} (h : pmPathPart w mid hi b o m) (hb : b < mid) (s : Shp w w') (k : Mk mid hi w w') : pmPathPart w' mid hi b o m := by
  obtain ⟨⟨v0, k0, f0⟩, ⟨v1, k1, f1⟩, ⟨v2, k2, f2⟩, g, kg, hg, hF⟩ := h
  exact ⟨⟨_, k.cellAtR k0 (.inl hb), frozen_kept f0 k (World.block_lt_of_cell? w _ k0) (.inl hb)⟩, ⟨_, k.cellAtR k1 (.inl hb), frozen_kept f1 k (World.block_lt_of_cell? w _ k1) (.inl hb)⟩, ⟨_, k.cellAtR k2 (.inl hb), frozen_kept f2 k (World.block_lt_of_cell? w _ k2) (.inl hb)⟩, g, k.cellAtR kg (.inl hb), hg, hF.shp s⟩
set_option maxRecDepth 100000 in
set_option maxHeartbeats 4000000 in
theorem markPathPartSN (a : Option Addr) (n c lo hi : Nat) (kz : Int) (zs : List TPathPart) (w : World) (h : OwnPathPart w lo hi a n zs) (hn : szPathPart zs n ≤ 1048576) (h0 : 0 ≤ kz) (h1 : kz ≤ 1073741824) (hh : hi ≤ w.heap.size) :
    Calls Try.prog 96 #[.slice a n c, .int .i64 kz] w fun e w' => e = .returned (.int .i64 (kz + 3 * (n : Int) + 5 * ((sumTo sePathPart zs n : Nat) : Int))) ∧ Mk lo hi w w' := by
  have hn0 : n ≤ 1048576 := Nat.le_trans (szPathPart_n zs n) hn
  by_cases hz : n = 0
  · subst hz
    go_enter Try.func96, Try.ntmps96
    go_wp2
    refine wp_loop_rounds 1 ?_; rw [rounds_succ]
    go_wp2
    go_ret
    exact ⟨by simp [sumTo], Mk.refl _ _ _⟩
  · obtain ⟨b, off, mid, rfl, hl, hm, hmh, hx⟩ := h.2 (by omega)
    have hP : ∀ i, i < n → pmPathPart w mid hi b (off + i * 4) (zs.getD i default).hops.length := fun i hi => pmPathPart_of (hx i hi)
    clear hx
    go_enter Try.func96, Try.ntmps96
    go_wp2
    go_loopw [1, 5] (fun q i wr => ∃ k : Nat, k ≤ n ∧ i = .int .i64 k ∧ q = .int .i64 (kz + 3 * (k : Int) + 5 * ((sumTo sePathPart zs k : Nat) : Int)) ∧ Hid (∀ i, i < n → pmPathPart wr mid hi b (off + i * 4) (zs.getD i default).hops.length) ∧ Mk lo hi w wr) (fun _ i _ => n - (intOf i).toNat)
    case atStart => exact ⟨0, Nat.zero_le _, rfl, by simp [sumTo], hP, Mk.refl _ _ _⟩
    case round =>
      clear hP
      obtain ⟨k, hk, rfl, rfl, hP, hM⟩ := hrel
      have hs1 := sumTo_le sePathPart zs hk
      obtain ⟨V, hV⟩ : ∃ V, Hid (V = sumTo sePathPart zs k) := ⟨_, rfl⟩
      rw [← hV.out] at hs1
      have hsz : sumTo sePathPart zs n ≤ 1048576 := by unfold szPathPart at hn; omega
      rw [← hV.out]
      by_cases hlt : k < n
      · have hp := hP.out k hlt
        have hT := sumTo_at sePathPart zs hlt
        obtain ⟨N3, hN3⟩ : ∃ N, Hid (N = (zs.getD k default).hops.length) := ⟨_, rfl⟩
        rw [← hN3.out] at hp
        rw [← hV.out, show sePathPart (zs.getD k default) = N3 from hN3.out.symm] at hT
        have hVs := Lib.hid (show sumTo sePathPart zs (k + 1) = V + N3 by rw [sumTo, ← hV.out, hN3.out]; rfl)
        obtain ⟨⟨v0, k0, f0⟩, ⟨v1, k1, f1⟩, ⟨v2, k2, f2⟩, g, kg, hg, hF⟩ := hp
        have hkk := Lib.hid (show ∀ r, r < 3 → ∀ i, i < n → b ≠ b ∨ off + k * 4 + r ≠ off + i * 4 + 3 from fun r hr i hi => .inr (by omega))
        have hFp := hF
        replace hFp := hFp.put ⟨b, off + k * 4, none⟩ (.int .i64 (kz + 3 * (k : Int) + 5 * (V : Int)))
        replace hFp := hFp.put ⟨b, off + k * 4 + 1, none⟩ (.int .i64 (kz + 3 * (k : Int) + 5 * (V : Int) + 1))
        replace hFp := hFp.put ⟨b, off + k * 4 + 2, none⟩ (.int .i64 (kz + 3 * (k : Int) + 5 * (V : Int) + 1 + 1))
        have hlk : lo ≤ mid := by omega
        have hPP := Lib.hid (show ∀ i, i < n → pmPathPart ((((wr.setCell ⟨b, off + k * 4, none⟩ (.int .i64 (kz + 3 * (k : Int) + 5 * (V : Int)))).setCell ⟨b, off + k * 4 + 1, none⟩ (.int .i64 (kz + 3 * (k : Int) + 5 * (V : Int) + 1))).setCell ⟨b, off + k * 4 + 2, none⟩ (.int .i64 (kz + 3 * (k : Int) + 5 * (V : Int) + 1 + 1)))) mid hi b (off + i * 4) (zs.getD i default).hops.length from fun i hi => (pmPathPart_set ((pmPathPart_set ((pmPathPart_set (hP.out i hi) _ _ _ (hkk.out 0 (by decide) i hi))) _ _ _ (hkk.out 1 (by decide) i hi))) _ _ _ (hkk.out 2 (by decide) i hi)))
        have hMM := (((hM.putR ⟨b, off + k * 4, none⟩ (.int .i64 (kz + 3 * (k : Int) + 5 * (V : Int))) hl (Nat.lt_of_lt_of_le hm hmh)).putR ⟨b, off + k * 4 + 1, none⟩ (.int .i64 (kz + 3 * (k : Int) + 5 * (V : Int) + 1)) hl (Nat.lt_of_lt_of_le hm hmh)).putR ⟨b, off + k * 4 + 2, none⟩ (.int .i64 (kz + 3 * (k : Int) + 5 * (V : Int) + 1 + 1)) hl (Nat.lt_of_lt_of_le hm hmh))
        go_wp2_with fail
        refine (markHopP g 0 N3 N3 mid hi _ _ hFp hg (by omega) (by omega) (by omega)).mono ?_
        rintro e w2 ⟨rfl, hS, m2⟩
        have hM2 := hMM.trans (m2.wide (.inr ⟨hlk, Nat.le_refl _⟩))
        have hP2 := Lib.hid (show ∀ i, i < n → pmPathPart w2 mid hi b (off + i * 4) (zs.getD i default).hops.length from fun i hi => pmPathPart_call (hPP.out i hi) hm hS m2)
        go_wp2_with fail
        go_roundw
        case rel => exact ⟨k + 1, by omega, by go_num, congrArg (Value.int .i64) (by rw [hVs.out]; omega), hP2, hM2⟩
        case measure => simp [intOf]; omega
      · obtain rfl : k = n := by omega
        go_wp2_with fail
        go_ret
        exact ⟨retI (by rw [hV.out]), hM⟩
end Go.Proofs.Ytdlafigjkefllaa
namespace Go.Proofs.Ytdlafigjkefllaa
open Go.ChangeShapes Go.WideShapes Go.ChangeAt Go.RowKit
set_option linter.unusedVariables false
set_option maxRecDepth 100000 in
set_option maxHeartbeats 4000000 in
theorem markPathC (a0 : Option Addr) (n0 c0 : Nat) (z0 : List TPathPart) (lo hi : Nat) (k : Int) (w : World) (h0 : OwnPathPart w lo hi a0 n0 z0) (hd0 : lo ≤ hi) (hh : hi ≤ w.heap.size) (hk0 : 0 ≤ k) (hk1 : k ≤ 1073741824) (hn0 : szPathPart z0 n0 ≤ 1048576) :
    Calls Try.prog 69 #[.agg #[.slice a0 n0 c0], .int .i64 k] w fun e w' => ∃ l : Int, (0 ≤ l ∧ l ≤ k + 8388608) ∧ e = .returned (.int .i64 l) ∧ Mk lo hi w w' := by
  have M0 := Mk.alloc w (Obj.cells #[Value.slice a0 n0 c0] 64)
  have hs0 : n0 + sumTo sePathPart z0 n0 ≤ 1048576 := hn0
  go_enter Try.func69, Try.ntmps69
  go_wp2_with fail
  refine (markPathPartSN a0 n0 c0 lo hi k z0 _ (h0.mk M0 hh (.inr (.inr (Nat.le_refl _)))) hn0 hk0 hk1 (Nat.le_trans hh M0.size)).mono ?_
  rintro e w2 ⟨rfl, m2⟩
  go_wp2_with fail
  go_ret
  exact ⟨_, ⟨by omega, by omega⟩, rfl, (M0.wide (.inl (Nat.le_refl _))).trans m2⟩
end Go.Proofs.Ytdlafigjkefllaa
