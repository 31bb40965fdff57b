
/- Segment: rows of them: the laws' copy, equality and size. -/
import Derived.Test.YtdlafigjkefllaaCSegment
import Derived.Test.YtdlafigjkefllaaNest
namespace Go.Proofs.Ytdlafigjkefllaa
open Go.ChangeShapes Go.WideShapes Go.ChangeAt Go.RowKit
set_option linter.unusedVariables false
structure TSegment where (ts : Int) (beta : Int) (hops : List THop)
instance : Inhabited TSegment := ⟨⟨0, 0, []⟩⟩
def elSegment (w : World) (B b o : Nat) (x : TSegment) : Prop := ∃ a2 n2 c2, w.cell? ⟨b, o, none⟩ = some (.int .i64 x.ts) ∧ w.cell? ⟨b, o + 1, none⟩ = some (.int .i64 x.beta) ∧ w.cell? ⟨b, o + 2, none⟩ = some (.slice a2 n2 c2) ∧ HasHop w B a2 n2 x.hops ∧ n2 ≤ c2 ∧ c2 ≤ 9223372036854775807 ∧ (a2 = none → c2 = 0)
def owSegment (w : World) (lo hi b o : Nat) (x : TSegment) : Prop := ∃ g2 n2 l2 h2, (w.cell? ⟨b, o, none⟩ = some (.int .i64 x.ts) ∧ w.frozen? ⟨b, o, none⟩ = false) ∧ (w.cell? ⟨b, o + 1, none⟩ = some (.int .i64 x.beta) ∧ w.frozen? ⟨b, o + 1, none⟩ = false) ∧ (w.cell? ⟨b, o + 2, none⟩ = some (.slice (some ⟨g2, 0, none⟩) n2 n2) ∧ w.frozen? ⟨b, o + 2, none⟩ = false) ∧ OwnHop w l2 h2 (some ⟨g2, 0, none⟩) n2 x.hops ∧ lo ≤ l2 ∧ h2 ≤ hi ∧ n2 ≤ 9223372036854775807
def ESegment : El TSegment where
  nc := 3
  pos := by decide
  el := elSegment
  far := fun h hm hb hB hr => by
    obtain ⟨a2, n2, c2, k0, k1, k2, r2, m2, t2, z2⟩ := h
    exact ⟨_, _, _, cell_kept k0 hm (by omega), cell_kept k1 hm (by omega), cell_kept k2 hm (by omega), r2.mk hm hB hr, m2, t2, z2⟩
  mono := fun h hB => by
    obtain ⟨a2, n2, c2, k0, k1, k2, r2, m2, t2, z2⟩ := h
    exact ⟨_, _, _, k0, k1, k2, r2.mono hB, m2, t2, z2⟩
  ow := owSegment
  ow_mk := fun h hm hb hB h1 h2 => by
    obtain ⟨g2, n2, l2, h2, ⟨k0, f0⟩, ⟨k1, f1⟩, ⟨k2, f2⟩, r2, p2, q2, t2⟩ := h
    exact ⟨_, _, _, _, ⟨cell_kept k0 hm h1, frozen_kept f0 hm hb h1⟩, ⟨cell_kept k1 hm h1, frozen_kept f1 hm hb h1⟩, ⟨cell_kept k2 hm h1, frozen_kept f2 hm hb h1⟩, r2.mk hm (by omega) (by omega), p2, q2, t2⟩
  ow_set := fun h p u h1 h2 => by
    obtain ⟨g2, n2, l2, h2, ⟨k0, f0⟩, ⟨k1, f1⟩, ⟨k2, f2⟩, r2, p2, q2, t2⟩ := h
    exact ⟨_, _, _, _, ⟨cell_set k0 p u (by omega), frozen_set f0 p u⟩, ⟨cell_set k1 p u (by omega), frozen_set f1 p u⟩, ⟨cell_set k2 p u (by omega), frozen_set f2 p u⟩, r2.set p u (by omega), p2, q2, t2⟩
  ow_has := fun h => by
    obtain ⟨g2, n2, l2, h2, ⟨k0, f0⟩, ⟨k1, f1⟩, ⟨k2, f2⟩, r2, p2, q2, t2⟩ := h
    exact ⟨_, _, _, k0, k1, k2, r2.has.mono (by omega), Nat.le_refl _, t2, (fun e => by cases e)⟩
  ow_wide := fun h hh => by
    obtain ⟨g2, n2, l2, h2, ⟨k0, f0⟩, ⟨k1, f1⟩, ⟨k2, f2⟩, r2, p2, q2, t2⟩ := h
    exact ⟨_, _, _, _, ⟨k0, f0⟩, ⟨k1, f1⟩, ⟨k2, f2⟩, r2, p2, Nat.le_trans q2 hh, t2⟩
abbrev HasSegment (w : World) (B : Nat) (a : Option Addr) (n : Nat) (zs : List TSegment) : Prop := HasD ESegment w B a n zs
abbrev OwnSegment (w : World) (lo hi : Nat) (a : Option Addr) (n : Nat) (zs : List TSegment) : Prop := OwnD ESegment w lo hi a n zs
def seSegment (x : TSegment) : Nat := x.hops.length
def szSegment (ts : List TSegment) (n : Nat) : Nat := n + sumTo seSegment ts n
theorem szSegment_n (ts : List TSegment) (n : Nat) : n ≤ szSegment ts n := Nat.le_add_right _ _
theorem szSegment_at (ts : List TSegment) {k n : Nat} (h : k < n) : seSegment (ts.getD k default) + sumTo seSegment ts k + n ≤ szSegment ts n := by have := sumTo_at seSegment ts h; unfold szSegment; omega
theorem HasSegment.at (w : World) (B n k : Nat) (a : Option Addr) (zs : List TSegment) (h : HasSegment w B a n zs) (hk : k < n) : ∃ b off x, a = some ⟨b, off, none⟩ ∧ b < B ∧ Hid (x = zs.getD k default) ∧ ∃ a2 n2 c2, w.cell? ⟨b, off + k * 3, none⟩ = some (.int .i64 x.ts) ∧ w.cell? ⟨b, off + k * 3 + 1, none⟩ = some (.int .i64 x.beta) ∧ w.cell? ⟨b, off + k * 3 + 2, none⟩ = some (.slice a2 n2 c2) ∧ HasHop w B a2 n2 x.hops ∧ n2 ≤ c2 ∧ c2 ≤ 9223372036854775807 ∧ (a2 = none → c2 = 0) := by
  obtain ⟨b, off, x, e, hb, hx, hc⟩ := h.at_ hk
  obtain ⟨a2, n2, c2, k0, k1, k2, r2, m2, t2, z2⟩ := hc
  exact ⟨b, off, x, e, hb, hx, _, _, _, k0, k1, k2, r2, m2, t2, z2⟩
theorem infoRSegment : (Try.prog.info? 82).map (fun i => (i.zero, i.size, i.bytes)) = some (some (.agg #[.int .i64 0, .int .i64 0, .slice none 0 0]), 3, 40) := by kernel_rfl

set_option maxRecDepth 100000 in
set_option maxHeartbeats 4000000 in
theorem toSegmentS (a : Option Addr) (n c B : Nat) (zs : List TSegment) (w : World) (h : HasSegment w B a n zs) (hB : B ≤ w.heap.size) (hn : szSegment zs n ≤ 1048576) :
    Calls Try.prog 47 #[.slice a n c] w fun e w' => ∃ b, e = .returned (.slice (some ⟨b, 0, none⟩) n n) ∧ OwnSegment w' w.heap.size w'.heap.size (some ⟨b, 0, none⟩) n zs ∧ Mk0 w w' := by
  have hn0 : n ≤ 1048576 := Nat.le_trans (szSegment_n zs n) hn
  obtain ⟨i0, hi, hz0, hz1, hz2⟩ := info_parts infoRSegment
  have hu := Try.underlying34
  go_enter Try.func47, Try.ntmps47
  go_wp2_with (with_reducible refine wpList_make_full w rfl (.tmp 6) (.tmp 6) 34 rfl w.heap.size 82 i0 (.agg #[.int .i64 0, .int .i64 0, .slice none 0 0]) 3 hu hi hz0 hz1 .i64 .i64 n n n rfl rfl rfl rfl (by rw [hz2]; omega) (by unfold maxLen; omega) (Nat.le_refl _) ?_; intro w1 hown hgr)
  have hF := ownsRow_fillR hown (fun _ => undef)
  have hM1 : Mk0 w w1 := Mk.of_below ((Below.refl _ _).grown hgr (Nat.le_refl _) (fun k hk => by cases hk))
  have hg1 : 0 < n → w.heap.size < w1.heap.size := fun h0 => by
    obtain ⟨v, hv, _⟩ := hF.any0 0 (by omega)
    exact World.block_lt_of_cell? w1 _ hv
  replace hF : Fill w1 w.heap.size 0 (n * 3) 0 (fun _ => undef) := by intro j hj; obtain ⟨v, h1, h2, _⟩ := hF j (by omega); exact ⟨v, h1, h2, fun h => absurd h (by omega)⟩
  go_loopw [4] (fun i wr => ∃ k : Nat, k ≤ n ∧ i = .int .i64 k ∧ Fill wr w.heap.size 0 (n * 3) 0 (fun _ => undef) ∧ (∀ i, i < k → owSegment wr (w.heap.size + 1) wr.heap.size w.heap.size (i * 3) (zs.getD i default)) ∧ Mk0 w wr) (fun i _ => n - (intOf i).toNat)
  case atStart => exact ⟨0, Nat.zero_le _, rfl, hF, fun i hi => absurd hi (by omega), hM1⟩
  case round =>
    clear hF hM1 hown hgr hg1
    obtain ⟨k, hk, rfl, hF, hE, hM⟩ := hrel
    by_cases hlt : k < n
    · obtain ⟨b, off, x, rfl, hb, hx, a2, n2, c2, d0, d1, d2, r2, m2, t2, z2⟩ := HasSegment.at _ _ _ _ _ _ (h.mk hM hB (.inr (Nat.le_refl _))) hlt
      have hs2 : n2 ≤ 1048576 := (by have HS := szSegment_at zs hlt; rw [← hx.out] at HS; unfold seSegment at HS; have := r2.1; omega)
      have hsz : w.heap.size < wr.heap.size := by
        obtain ⟨v, hv, _⟩ := hF.any0 (k * 3) (by omega)
        exact World.block_lt_of_cell? wr _ hv
      have HE := Lib.hid hE
      clear hE
      go_wp2_with fail
      refine (toSegmentC x.ts x.beta a2 n2 c2 x.hops B _ r2 (Nat.le_trans hB hM.size) hs2).mono ?_
      rintro e w2 ⟨b2, rfl, o2, q2, m2⟩
      have hF2 := hF.block (m2.block _ hsz (.inr (Nat.zero_le _)))
      have hM2 := hM.trans m2
      clear hF d0 d1 d2
      obtain ⟨v0, hv0, hf0⟩ := hF2.any0 (k * 3) (by omega)
      obtain ⟨v1, hv1, hf1⟩ := hF2.any0 (k * 3 + 1) (by omega)
      obtain ⟨v2, hv2, hf2⟩ := hF2.any0 (k * 3 + 2) (by omega)
      go_wp2_with fail
      go_roundw
      case rel =>
        have z2 : (((w2.setCell ⟨w.heap.size, k * 3, none⟩ (.int .i64 x.ts)).setCell ⟨w.heap.size, k * 3 + 1, none⟩ (.int .i64 x.beta)).setCell ⟨w.heap.size, k * 3 + 2, none⟩ (.slice (some ⟨b2, 0, none⟩) n2 n2)).heap.size = w2.heap.size := by simp [World.setCell]
        have e0 : (((w2.setCell ⟨w.heap.size, k * 3, none⟩ (.int .i64 x.ts)).setCell ⟨w.heap.size, k * 3 + 1, none⟩ (.int .i64 x.beta)).setCell ⟨w.heap.size, k * 3 + 2, none⟩ (.slice (some ⟨b2, 0, none⟩) n2 n2)).cell? ⟨w.heap.size, k * 3, none⟩ = some (.int .i64 x.ts) := (cell_set (cell_set (World.cell?_setCell_same _ _ (.int .i64 x.ts) hv0) ⟨w.heap.size, k * 3 + 1, none⟩ (.int .i64 x.beta) (.inr (by simp))) ⟨w.heap.size, k * 3 + 2, none⟩ (.slice (some ⟨b2, 0, none⟩) n2 n2) (.inr (by simp)))
        have u0 : (((w2.setCell ⟨w.heap.size, k * 3, none⟩ (.int .i64 x.ts)).setCell ⟨w.heap.size, k * 3 + 1, none⟩ (.int .i64 x.beta)).setCell ⟨w.heap.size, k * 3 + 2, none⟩ (.slice (some ⟨b2, 0, none⟩) n2 n2)).frozen? ⟨w.heap.size, k * 3, none⟩ = false := (frozen_set (frozen_set (frozen_set hf0 ⟨w.heap.size, k * 3, none⟩ (.int .i64 x.ts)) ⟨w.heap.size, k * 3 + 1, none⟩ (.int .i64 x.beta)) ⟨w.heap.size, k * 3 + 2, none⟩ (.slice (some ⟨b2, 0, none⟩) n2 n2))
        have e1 : (((w2.setCell ⟨w.heap.size, k * 3, none⟩ (.int .i64 x.ts)).setCell ⟨w.heap.size, k * 3 + 1, none⟩ (.int .i64 x.beta)).setCell ⟨w.heap.size, k * 3 + 2, none⟩ (.slice (some ⟨b2, 0, none⟩) n2 n2)).cell? ⟨w.heap.size, k * 3 + 1, none⟩ = some (.int .i64 x.beta) := (cell_set (World.cell?_setCell_same _ _ (.int .i64 x.beta) (cell_set hv1 ⟨w.heap.size, k * 3, none⟩ (.int .i64 x.ts) (.inr (by simp)))) ⟨w.heap.size, k * 3 + 2, none⟩ (.slice (some ⟨b2, 0, none⟩) n2 n2) (.inr (by simp)))
        have u1 : (((w2.setCell ⟨w.heap.size, k * 3, none⟩ (.int .i64 x.ts)).setCell ⟨w.heap.size, k * 3 + 1, none⟩ (.int .i64 x.beta)).setCell ⟨w.heap.size, k * 3 + 2, none⟩ (.slice (some ⟨b2, 0, none⟩) n2 n2)).frozen? ⟨w.heap.size, k * 3 + 1, none⟩ = false := (frozen_set (frozen_set (frozen_set hf1 ⟨w.heap.size, k * 3, none⟩ (.int .i64 x.ts)) ⟨w.heap.size, k * 3 + 1, none⟩ (.int .i64 x.beta)) ⟨w.heap.size, k * 3 + 2, none⟩ (.slice (some ⟨b2, 0, none⟩) n2 n2))
        have e2 : (((w2.setCell ⟨w.heap.size, k * 3, none⟩ (.int .i64 x.ts)).setCell ⟨w.heap.size, k * 3 + 1, none⟩ (.int .i64 x.beta)).setCell ⟨w.heap.size, k * 3 + 2, none⟩ (.slice (some ⟨b2, 0, none⟩) n2 n2)).cell? ⟨w.heap.size, k * 3 + 2, none⟩ = some (.slice (some ⟨b2, 0, none⟩) n2 n2) := (World.cell?_setCell_same _ _ (.slice (some ⟨b2, 0, none⟩) n2 n2) (cell_set (cell_set hv2 ⟨w.heap.size, k * 3, none⟩ (.int .i64 x.ts) (.inr (by simp))) ⟨w.heap.size, k * 3 + 1, none⟩ (.int .i64 x.beta) (.inr (by simp))))
        have u2 : (((w2.setCell ⟨w.heap.size, k * 3, none⟩ (.int .i64 x.ts)).setCell ⟨w.heap.size, k * 3 + 1, none⟩ (.int .i64 x.beta)).setCell ⟨w.heap.size, k * 3 + 2, none⟩ (.slice (some ⟨b2, 0, none⟩) n2 n2)).frozen? ⟨w.heap.size, k * 3 + 2, none⟩ = false := (frozen_set (frozen_set (frozen_set hf2 ⟨w.heap.size, k * 3, none⟩ (.int .i64 x.ts)) ⟨w.heap.size, k * 3 + 1, none⟩ (.int .i64 x.beta)) ⟨w.heap.size, k * 3 + 2, none⟩ (.slice (some ⟨b2, 0, none⟩) n2 n2))
        have w2_ := (((o2.set ⟨w.heap.size, k * 3, none⟩ (.int .i64 x.ts) (.inl (by simp; omega))).set ⟨w.heap.size, k * 3 + 1, none⟩ (.int .i64 x.beta) (.inl (by simp; omega))).set ⟨w.heap.size, k * 3 + 2, none⟩ (.slice (some ⟨b2, 0, none⟩) n2 n2) (.inl (by simp; omega)))
        have EK : owSegment (((w2.setCell ⟨w.heap.size, k * 3, none⟩ (.int .i64 x.ts)).setCell ⟨w.heap.size, k * 3 + 1, none⟩ (.int .i64 x.beta)).setCell ⟨w.heap.size, k * 3 + 2, none⟩ (.slice (some ⟨b2, 0, none⟩) n2 n2)) (w.heap.size + 1) (((w2.setCell ⟨w.heap.size, k * 3, none⟩ (.int .i64 x.ts)).setCell ⟨w.heap.size, k * 3 + 1, none⟩ (.int .i64 x.beta)).setCell ⟨w.heap.size, k * 3 + 2, none⟩ (.slice (some ⟨b2, 0, none⟩) n2 n2)).heap.size w.heap.size (k * 3) x := ⟨_, _, _, _, ⟨e0, u0⟩, ⟨e1, u1⟩, ⟨e2, u2⟩, w2_, (by omega), (by omega), (by have := hs2; omega)⟩
        have EE : ∀ i, i < k + 1 → owSegment (((w2.setCell ⟨w.heap.size, k * 3, none⟩ (.int .i64 x.ts)).setCell ⟨w.heap.size, k * 3 + 1, none⟩ (.int .i64 x.beta)).setCell ⟨w.heap.size, k * 3 + 2, none⟩ (.slice (some ⟨b2, 0, none⟩) n2 n2)) (w.heap.size + 1) (((w2.setCell ⟨w.heap.size, k * 3, none⟩ (.int .i64 x.ts)).setCell ⟨w.heap.size, k * 3 + 1, none⟩ (.int .i64 x.beta)).setCell ⟨w.heap.size, k * 3 + 2, none⟩ (.slice (some ⟨b2, 0, none⟩) n2 n2)).heap.size w.heap.size (i * 3) (zs.getD i default) := by
          intro i hi'
          by_cases hi : i < k
          · rw [z2]; exact (ESegment.ow_set (ESegment.ow_set (ESegment.ow_set (ESegment.ow_wide (ESegment.ow_mk (HE.out i hi) m2 hsz (Nat.le_refl _) (.inr (Nat.zero_le _)) (.inr (.inr (Nat.zero_le _)))) m2.size) ⟨w.heap.size, k * 3, none⟩ (.int .i64 x.ts) (.inl (Nat.lt_succ_self _)) (.inr (.inr (show i * 3 + 3 ≤ k * 3 by omega)))) ⟨w.heap.size, k * 3 + 1, none⟩ (.int .i64 x.beta) (.inl (Nat.lt_succ_self _)) (.inr (.inr (show i * 3 + 3 ≤ k * 3 + 1 by omega)))) ⟨w.heap.size, k * 3 + 2, none⟩ (.slice (some ⟨b2, 0, none⟩) n2 n2) (.inl (Nat.lt_succ_self _)) (.inr (.inr (show i * 3 + 3 ≤ k * 3 + 2 by omega))))
          · obtain rfl : i = k := by omega
            rw [← hx.out]; exact EK
        exact ⟨k + 1, by omega, by go_num, (((hF2.put _ _).put _ _).put _ _), EE, (((hM2.put _ _ (Nat.le_refl _)).put _ _ (Nat.le_refl _)).put _ _ (Nat.le_refl _))⟩
      case measure => simp [intOf]; omega
    · obtain rfl : k = n := by omega
      go_wp2_with fail
      go_ret
      refine ⟨_, rfl, ⟨h.1, fun h0 => ?_⟩, hM⟩
      obtain ⟨v, hv, _⟩ := hF.any0 0 (by omega)
      have hlt2 := World.block_lt_of_cell? wr _ hv
      exact ⟨w.heap.size, 0, w.heap.size + 1, rfl, Nat.le_refl _, Nat.lt_succ_self _, hlt2, fun i hi => by rw [Nat.zero_add]; exact hE i hi⟩

set_option maxRecDepth 100000 in
set_option maxHeartbeats 4000000 in
theorem eqSegmentS (a a' : Option Addr) (n c c' B B' : Nat) (zs : List TSegment) (w : World) (h : HasSegment w B a n zs) (h' : HasSegment w B' a' n zs) (hB : B ≤ w.heap.size) (hB' : B' ≤ w.heap.size) (hn : szSegment zs n ≤ 1048576) :
    Calls Try.prog 18 #[.slice a n c, .slice a' n c'] w fun e w' => e = .returned (.bool true) ∧ Mk0 w w' := by
  have hn0 : n ≤ 1048576 := Nat.le_trans (szSegment_n zs n) hn
  go_enter Try.func18, Try.ntmps18
  go_wp2_with fail
  go_loopw [4, 5] (fun r i wr => r = .bool false ∧ ∃ k : Nat, k ≤ n ∧ i = .int .i64 k ∧ Mk0 w wr) (fun _ i _ => n - (intOf i).toNat)
  case atStart => exact ⟨rfl, 0, Nat.zero_le _, rfl, Mk.refl _ _ _⟩
  case round =>
    obtain ⟨rfl, k, hk, rfl, hM⟩ := hrel
    by_cases hlt : k < n
    · obtain ⟨b, off, x, rfl, hb, hx, a2, n2, c2, d0, d1, d2, r2, m2, t2, z2⟩ := HasSegment.at _ _ _ _ _ _ (h.mk hM hB (.inr (Nat.le_refl _))) hlt
      obtain ⟨b', off', x', rfl, hb', hx', a2', n2', c2', s0, s1, s2, r2', m2', t2', z2'⟩ := HasSegment.at _ _ _ _ _ _ (h'.mk hM hB' (.inr (Nat.le_refl _))) hlt
      obtain rfl : x = x' := hx.out.trans hx'.out.symm
      obtain rfl : n2 = n2' := r2.1.symm.trans r2'.1
      have hs2 : n2 ≤ 1048576 := (by have HS := szSegment_at zs hlt; rw [← hx.out] at HS; unfold seSegment at HS; have := r2.1; omega)
      have hB1 := Nat.le_trans hB hM.size
      have hB1' := Nat.le_trans hB' hM.size
      go_wp2_with fail
      go_region_with (go_at_call 51; refine (eqSegmentC x.ts x.beta a2 a2' n2 c2 c2' x.hops B B' _ (r2.mk (Mk.drew1 _) hB1 (.inr (Nat.le_refl _))) (r2'.mk (Mk.drew1 _) hB1' (.inr (Nat.le_refl _))) hB1 hB1' hs2).mono ?_; rintro e w2 ⟨rfl, m2⟩)
      all_goals (
        have m3 : Mk0 wr w2 := ⟨m2.os, m2.tape, m2.output, m2.size, m2.block⟩
        clear m2 d0 s0 d1 s1 d2 s2
        refine ‹∀ (a : Act) (w : World), _ → _› _ _ ?_
        go_wp2_with fail
        go_roundw
        case rel => exact ⟨rfl, k + 1, by omega, by go_num, hM.trans m3⟩
        case measure => simp [intOf]; omega)
    · obtain rfl : k = n := by omega
      go_wp2_with fail
      go_ret
      exact ⟨rfl, hM⟩

set_option maxRecDepth 100000 in
set_option maxHeartbeats 4000000 in
theorem szSegmentSC (a : Option Addr) (n c B : Nat) (zs : List TSegment) (l : Int) (w : World) (h : HasSegment w B a n zs) (hB : B ≤ w.heap.size) (h0 : 0 ≤ l) (h1 : l ≤ 1048576) (hn : ((szSegment zs n : Nat) : Int) ≤ l) :
    Calls Try.prog 45 #[.slice a n c, .int .i64 l] w fun e w' => ∃ l' : Int, l' = l - ((szSegment zs n : Nat) : Int) ∧ e = .returned (.int .i64 l') ∧ Mk0 w w' := by
  have hS : szSegment zs n = n + sumTo seSegment zs n := rfl
  go_enter Try.func45, Try.ntmps45
  go_wp2_with fail
  go_loopw [1, 5] (fun q i wr => ∃ k : Nat, k ≤ n ∧ i = .int .i64 k ∧ q = .int .i64 (l - n - ((sumTo seSegment zs k : Nat) : Int)) ∧ Hid (0 ≤ l - n - ((sumTo seSegment zs k : Nat) : Int)) ∧ Mk0 w wr) (fun _ i _ => n - (intOf i).toNat)
  case atStart => exact ⟨0, Nat.zero_le _, rfl, by simp [sumTo], (show (0 : Int) ≤ l - n - ((sumTo seSegment zs 0 : Nat) : Int) by simp only [sumTo]; omega), Mk.refl _ _ _⟩
  case round =>
    obtain ⟨k, hk, rfl, rfl, hq, hM⟩ := hrel
    have hq0 := hq.out
    by_cases hlt : k < n
    · obtain ⟨b, off, x, rfl, hb, hx, a2, n2, c2, d0, d1, d2, r2, m2, t2, z2⟩ := HasSegment.at _ _ _ _ _ _ (h.mk hM hB (.inr (Nat.le_refl _))) hlt
      have hS1 : sumTo seSegment zs (k + 1) = sumTo seSegment zs k + seSegment x := by rw [sumTo, hx.out]
      have hS2 := sumTo_le seSegment zs (show k + 1 ≤ n from hlt)
      have hse : seSegment x = n2 := by unfold seSegment; rw [r2.1]
      have hB1 := Nat.le_trans hB hM.size
      obtain ⟨L, hL⟩ : ∃ L : Int, Hid (L = l - n - ((sumTo seSegment zs k : Nat) : Int)) := ⟨_, rfl⟩
      rw [← hL.out] at hq0 ⊢
      have hL' := hL.out
      have hLb : L ≤ 1048576 := by omega
      clear hq hL'
      go_wp2_with fail
      refine (szSegmentC _ _ a2 n2 c2 L _ hq0 hLb (by have := hL.out; omega)).mono ?_
      rintro e w2 ⟨l2, hl2, rfl, m2⟩
      have hl0 : 0 ≤ l2 := by have := hL.out; omega
      go_wp2_with fail
      go_roundw
      case rel => exact ⟨k + 1, by omega, by go_num, congrArg (Value.int .i64) (by have := hL.out; omega), (show (0 : Int) ≤ l - n - ((sumTo seSegment zs (k + 1) : Nat) : Int) by have := hL.out; omega), hM.trans m2⟩
      case measure => simp [intOf]; omega
    · obtain rfl : k = n := by omega
      go_wp2_with fail
      go_ret
      exact ⟨_, by rw [hS]; omega, rfl, hM⟩

set_option maxRecDepth 100000 in
set_option maxHeartbeats 4000000 in
theorem szSegmentSB (a : Option Addr) (n c B : Nat) (zs : List TSegment) (l : Int) (w : World) (h : HasSegment w B a n zs) (hB : B ≤ w.heap.size) (h0 : 0 ≤ l) (h1 : l ≤ 1048576) (hn : l < ((szSegment zs n : Nat) : Int)) (hm : n ≤ 9223372036854775807) :
    Calls Try.prog 45 #[.slice a n c, .int .i64 l] w fun e w' => e = .returned (.int .i64 (-1)) ∧ Mk0 w w' := by
  by_cases hbn : l < (n : Int)
  · go_enter Try.func45, Try.ntmps45
    go_wp2_with fail
    go_ret
    exact ⟨rfl, Mk.refl _ _ _⟩
  have hS : szSegment zs n = n + sumTo seSegment zs n := rfl
  go_enter Try.func45, Try.ntmps45
  go_wp2_with fail
  go_loopw [1, 5] (fun q i wr => ∃ k : Nat, k ≤ n ∧ i = .int .i64 k ∧ q = .int .i64 (l - n - ((sumTo seSegment zs k : Nat) : Int)) ∧ Hid (0 ≤ l - n - ((sumTo seSegment zs k : Nat) : Int)) ∧ Mk0 w wr) (fun _ i _ => n - (intOf i).toNat)
  case atStart => exact ⟨0, Nat.zero_le _, rfl, by simp [sumTo], (show (0 : Int) ≤ l - n - ((sumTo seSegment zs 0 : Nat) : Int) by simp only [sumTo]; omega), Mk.refl _ _ _⟩
  case round =>
    obtain ⟨k, hk, rfl, rfl, hq, hM⟩ := hrel
    have hq0 := hq.out
    by_cases hlt : k < n
    · obtain ⟨b, off, x, rfl, hb, hx, a2, n2, c2, d0, d1, d2, r2, m2, t2, z2⟩ := HasSegment.at _ _ _ _ _ _ (h.mk hM hB (.inr (Nat.le_refl _))) hlt
      have hS1 : sumTo seSegment zs (k + 1) = sumTo seSegment zs k + seSegment x := by rw [sumTo, hx.out]
      have hS2 := sumTo_le seSegment zs (show k + 1 ≤ n from hlt)
      have hse : seSegment x = n2 := by unfold seSegment; rw [r2.1]
      have hB1 := Nat.le_trans hB hM.size
      obtain ⟨L, hL⟩ : ∃ L : Int, Hid (L = l - n - ((sumTo seSegment zs k : Nat) : Int)) := ⟨_, rfl⟩
      rw [← hL.out] at hq0 ⊢
      have hL' := hL.out
      have hLb : L ≤ 1048576 := by omega
      clear hq hL'
      by_cases hfit : ((n2 : Nat) : Int) ≤ L
      · go_wp2_with fail
        refine (szSegmentC _ _ a2 n2 c2 L _ hq0 hLb (by omega)).mono ?_
        rintro e w2 ⟨l2, hl2, rfl, m2⟩
        have hl0 : 0 ≤ l2 := by omega
        go_wp2_with fail
        go_roundw
        case rel => exact ⟨k + 1, by omega, by go_num, congrArg (Value.int .i64) (by have := hL.out; omega), (show (0 : Int) ≤ l - n - ((sumTo seSegment zs (k + 1) : Nat) : Int) by have := hL.out; omega), hM.trans m2⟩
        case measure => simp [intOf]; omega
      · go_wp2_with fail
        refine (szSegmentB _ _ a2 n2 c2 L _ hq0 hLb (by omega) (Nat.le_trans m2 t2)).mono ?_
        rintro e w2 ⟨rfl, m2⟩
        go_wp2_with fail
        go_ret
        exact ⟨rfl, hM.trans m2⟩
    · obtain rfl : k = n := by omega
      go_wp2_with fail
      go_ret
      exfalso
      have := hq.out
      omega

end Go.Proofs.Ytdlafigjkefllaa
