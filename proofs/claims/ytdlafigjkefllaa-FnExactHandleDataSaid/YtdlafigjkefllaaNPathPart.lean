
/- PathPart: rows of them: the laws' copy, equality and size. -/
import Derived.Test.YtdlafigjkefllaaCPathPart
import Derived.Test.YtdlafigjkefllaaNest
namespace Go.Proofs.Ytdlafigjkefllaa
open Go.ChangeShapes Go.WideShapes Go.ChangeAt Go.RowKit
set_option linter.unusedVariables false
structure TPathPart where (kind : Int) (ts : Int) (beta : Int) (hops : List THop)
instance : Inhabited TPathPart := ⟨⟨0, 0, 0, []⟩⟩
def elPathPart (w : World) (B b o : Nat) (x : TPathPart) : Prop := ∃ a3 n3 c3, w.cell? ⟨b, o, none⟩ = some (.int .i64 x.kind) ∧ w.cell? ⟨b, o + 1, none⟩ = some (.int .i64 x.ts) ∧ w.cell? ⟨b, o + 2, none⟩ = some (.int .i64 x.beta) ∧ w.cell? ⟨b, o + 3, none⟩ = some (.slice a3 n3 c3) ∧ HasHop w B a3 n3 x.hops ∧ n3 ≤ c3 ∧ c3 ≤ 9223372036854775807 ∧ (a3 = none → c3 = 0)
def owPathPart (w : World) (lo hi b o : Nat) (x : TPathPart) : Prop := ∃ g3 n3 l3 h3, (w.cell? ⟨b, o, none⟩ = some (.int .i64 x.kind) ∧ w.frozen? ⟨b, o, none⟩ = false) ∧ (w.cell? ⟨b, o + 1, none⟩ = some (.int .i64 x.ts) ∧ w.frozen? ⟨b, o + 1, none⟩ = false) ∧ (w.cell? ⟨b, o + 2, none⟩ = some (.int .i64 x.beta) ∧ w.frozen? ⟨b, o + 2, none⟩ = false) ∧ (w.cell? ⟨b, o + 3, none⟩ = some (.slice (some ⟨g3, 0, none⟩) n3 n3) ∧ w.frozen? ⟨b, o + 3, none⟩ = false) ∧ OwnHop w l3 h3 (some ⟨g3, 0, none⟩) n3 x.hops ∧ lo ≤ l3 ∧ h3 ≤ hi ∧ n3 ≤ 9223372036854775807
def EPathPart : El TPathPart where
  nc := 4
  pos := by decide
  el := elPathPart
  far := fun h hm hb hB hr => by
    obtain ⟨a3, n3, c3, k0, k1, k2, k3, r3, m3, t3, z3⟩ := h
    exact ⟨_, _, _, cell_kept k0 hm (by omega), cell_kept k1 hm (by omega), cell_kept k2 hm (by omega), cell_kept k3 hm (by omega), r3.mk hm hB hr, m3, t3, z3⟩
  mono := fun h hB => by
    obtain ⟨a3, n3, c3, k0, k1, k2, k3, r3, m3, t3, z3⟩ := h
    exact ⟨_, _, _, k0, k1, k2, k3, r3.mono hB, m3, t3, z3⟩
  ow := owPathPart
  ow_mk := fun h hm hb hB h1 h2 => by
    obtain ⟨g3, n3, l3, h3, ⟨k0, f0⟩, ⟨k1, f1⟩, ⟨k2, f2⟩, ⟨k3, f3⟩, r3, p3, q3, t3⟩ := h
    exact ⟨_, _, _, _, ⟨cell_kept k0 hm h1, frozen_kept f0 hm hb h1⟩, ⟨cell_kept k1 hm h1, frozen_kept f1 hm hb h1⟩, ⟨cell_kept k2 hm h1, frozen_kept f2 hm hb h1⟩, ⟨cell_kept k3 hm h1, frozen_kept f3 hm hb h1⟩, r3.mk hm (by omega) (by omega), p3, q3, t3⟩
  ow_set := fun h p u h1 h2 => by
    obtain ⟨g3, n3, l3, h3, ⟨k0, f0⟩, ⟨k1, f1⟩, ⟨k2, f2⟩, ⟨k3, f3⟩, r3, p3, q3, t3⟩ := h
    exact ⟨_, _, _, _, ⟨cell_set k0 p u (by omega), frozen_set f0 p u⟩, ⟨cell_set k1 p u (by omega), frozen_set f1 p u⟩, ⟨cell_set k2 p u (by omega), frozen_set f2 p u⟩, ⟨cell_set k3 p u (by omega), frozen_set f3 p u⟩, r3.set p u (by omega), p3, q3, t3⟩
  ow_has := fun h => by
    obtain ⟨g3, n3, l3, h3, ⟨k0, f0⟩, ⟨k1, f1⟩, ⟨k2, f2⟩, ⟨k3, f3⟩, r3, p3, q3, t3⟩ := h
    exact ⟨_, _, _, k0, k1, k2, k3, r3.has.mono (by omega), Nat.le_refl _, t3, (fun e => by cases e)⟩
  ow_wide := fun h hh => by
    obtain ⟨g3, n3, l3, h3, ⟨k0, f0⟩, ⟨k1, f1⟩, ⟨k2, f2⟩, ⟨k3, f3⟩, r3, p3, q3, t3⟩ := h
    exact ⟨_, _, _, _, ⟨k0, f0⟩, ⟨k1, f1⟩, ⟨k2, f2⟩, ⟨k3, f3⟩, r3, p3, Nat.le_trans q3 hh, t3⟩
abbrev HasPathPart (w : World) (B : Nat) (a : Option Addr) (n : Nat) (zs : List TPathPart) : Prop := HasD EPathPart w B a n zs
abbrev OwnPathPart (w : World) (lo hi : Nat) (a : Option Addr) (n : Nat) (zs : List TPathPart) : Prop := OwnD EPathPart w lo hi a n zs
def sePathPart (x : TPathPart) : Nat := x.hops.length
def szPathPart (ts : List TPathPart) (n : Nat) : Nat := n + sumTo sePathPart ts n
theorem szPathPart_n (ts : List TPathPart) (n : Nat) : n ≤ szPathPart ts n := Nat.le_add_right _ _
theorem szPathPart_at (ts : List TPathPart) {k n : Nat} (h : k < n) : sePathPart (ts.getD k default) + sumTo sePathPart ts k + n ≤ szPathPart ts n := by have := sumTo_at sePathPart ts h; unfold szPathPart; omega
theorem HasPathPart.at (w : World) (B n k : Nat) (a : Option Addr) (zs : List TPathPart) (h : HasPathPart w B a n zs) (hk : k < n) : ∃ b off x, a = some ⟨b, off, none⟩ ∧ b < B ∧ Hid (x = zs.getD k default) ∧ ∃ a3 n3 c3, w.cell? ⟨b, off + k * 4, none⟩ = some (.int .i64 x.kind) ∧ w.cell? ⟨b, off + k * 4 + 1, none⟩ = some (.int .i64 x.ts) ∧ w.cell? ⟨b, off + k * 4 + 2, none⟩ = some (.int .i64 x.beta) ∧ w.cell? ⟨b, off + k * 4 + 3, none⟩ = some (.slice a3 n3 c3) ∧ HasHop w B a3 n3 x.hops ∧ n3 ≤ c3 ∧ c3 ≤ 9223372036854775807 ∧ (a3 = none → c3 = 0) := by
  obtain ⟨b, off, x, e, hb, hx, hc⟩ := h.at_ hk
  obtain ⟨a3, n3, c3, k0, k1, k2, k3, r3, m3, t3, z3⟩ := hc
  exact ⟨b, off, x, e, hb, hx, _, _, _, k0, k1, k2, k3, r3, m3, t3, z3⟩
theorem infoRPathPart : (Try.prog.info? 148).map (fun i => (i.zero, i.size, i.bytes)) = some (some (.agg #[.int .i64 0, .int .i64 0, .int .i64 0, .slice none 0 0]), 4, 48) := by kernel_rfl

set_option maxRecDepth 100000 in
set_option maxHeartbeats 4000000 in
theorem toPathPartS (a : Option Addr) (n c B : Nat) (zs : List TPathPart) (w : World) (h : HasPathPart w B a n zs) (hB : B ≤ w.heap.size) (hn : szPathPart zs n ≤ 1048576) :
    Calls Try.prog 90 #[.slice a n c] w fun e w' => ∃ b, e = .returned (.slice (some ⟨b, 0, none⟩) n n) ∧ OwnPathPart w' w.heap.size w'.heap.size (some ⟨b, 0, none⟩) n zs ∧ Mk0 w w' := by
  have hn0 : n ≤ 1048576 := Nat.le_trans (szPathPart_n zs n) hn
  obtain ⟨i0, hi, hz0, hz1, hz2⟩ := info_parts infoRPathPart
  have hu := Try.underlying62
  go_enter Try.func90, Try.ntmps90
  go_wp2_with (with_reducible refine wpList_make_full w rfl (.tmp 6) (.tmp 6) 62 rfl w.heap.size 148 i0 (.agg #[.int .i64 0, .int .i64 0, .int .i64 0, .slice none 0 0]) 4 hu hi hz0 hz1 .i64 .i64 n n n rfl rfl rfl rfl (by rw [hz2]; omega) (by unfold maxLen; omega) (Nat.le_refl _) ?_; intro w1 hown hgr)
  have hF := ownsRow_fillR hown (fun _ => undef)
  have hM1 : Mk0 w w1 := Mk.of_below ((Below.refl _ _).grown hgr (Nat.le_refl _) (fun k hk => by cases hk))
  have hg1 : 0 < n → w.heap.size < w1.heap.size := fun h0 => by
    obtain ⟨v, hv, _⟩ := hF.any0 0 (by omega)
    exact World.block_lt_of_cell? w1 _ hv
  replace hF : Fill w1 w.heap.size 0 (n * 4) 0 (fun _ => undef) := by intro j hj; obtain ⟨v, h1, h2, _⟩ := hF j (by omega); exact ⟨v, h1, h2, fun h => absurd h (by omega)⟩
  go_loopw [4] (fun i wr => ∃ k : Nat, k ≤ n ∧ i = .int .i64 k ∧ Fill wr w.heap.size 0 (n * 4) 0 (fun _ => undef) ∧ (∀ i, i < k → owPathPart wr (w.heap.size + 1) wr.heap.size w.heap.size (i * 4) (zs.getD i default)) ∧ Mk0 w wr) (fun i _ => n - (intOf i).toNat)
  case atStart => exact ⟨0, Nat.zero_le _, rfl, hF, fun i hi => absurd hi (by omega), hM1⟩
  case round =>
    clear hF hM1 hown hgr hg1
    obtain ⟨k, hk, rfl, hF, hE, hM⟩ := hrel
    by_cases hlt : k < n
    · obtain ⟨b, off, x, rfl, hb, hx, a3, n3, c3, d0, d1, d2, d3, r3, m3, t3, z3⟩ := HasPathPart.at _ _ _ _ _ _ (h.mk hM hB (.inr (Nat.le_refl _))) hlt
      have hs3 : n3 ≤ 1048576 := (by have HS := szPathPart_at zs hlt; rw [← hx.out] at HS; unfold sePathPart at HS; have := r3.1; omega)
      have hsz : w.heap.size < wr.heap.size := by
        obtain ⟨v, hv, _⟩ := hF.any0 (k * 4) (by omega)
        exact World.block_lt_of_cell? wr _ hv
      have HE := Lib.hid hE
      clear hE
      go_wp2_with fail
      refine (toPathPartC x.kind x.ts x.beta a3 n3 c3 x.hops B _ r3 (Nat.le_trans hB hM.size) hs3).mono ?_
      rintro e w2 ⟨b3, rfl, o3, q3, m2⟩
      have hF2 := hF.block (m2.block _ hsz (.inr (Nat.zero_le _)))
      have hM2 := hM.trans m2
      clear hF d0 d1 d2 d3
      obtain ⟨v0, hv0, hf0⟩ := hF2.any0 (k * 4) (by omega)
      obtain ⟨v1, hv1, hf1⟩ := hF2.any0 (k * 4 + 1) (by omega)
      obtain ⟨v2, hv2, hf2⟩ := hF2.any0 (k * 4 + 2) (by omega)
      obtain ⟨v3, hv3, hf3⟩ := hF2.any0 (k * 4 + 3) (by omega)
      go_wp2_with fail
      go_roundw
      case rel =>
        have z2 : ((((w2.setCell ⟨w.heap.size, k * 4, none⟩ (.int .i64 x.kind)).setCell ⟨w.heap.size, k * 4 + 1, none⟩ (.int .i64 x.ts)).setCell ⟨w.heap.size, k * 4 + 2, none⟩ (.int .i64 x.beta)).setCell ⟨w.heap.size, k * 4 + 3, none⟩ (.slice (some ⟨b3, 0, none⟩) n3 n3)).heap.size = w2.heap.size := by simp [World.setCell]
        have e0 : ((((w2.setCell ⟨w.heap.size, k * 4, none⟩ (.int .i64 x.kind)).setCell ⟨w.heap.size, k * 4 + 1, none⟩ (.int .i64 x.ts)).setCell ⟨w.heap.size, k * 4 + 2, none⟩ (.int .i64 x.beta)).setCell ⟨w.heap.size, k * 4 + 3, none⟩ (.slice (some ⟨b3, 0, none⟩) n3 n3)).cell? ⟨w.heap.size, k * 4, none⟩ = some (.int .i64 x.kind) := (cell_set (cell_set (cell_set (World.cell?_setCell_same _ _ (.int .i64 x.kind) hv0) ⟨w.heap.size, k * 4 + 1, none⟩ (.int .i64 x.ts) (.inr (by simp))) ⟨w.heap.size, k * 4 + 2, none⟩ (.int .i64 x.beta) (.inr (by simp))) ⟨w.heap.size, k * 4 + 3, none⟩ (.slice (some ⟨b3, 0, none⟩) n3 n3) (.inr (by simp)))
        have u0 : ((((w2.setCell ⟨w.heap.size, k * 4, none⟩ (.int .i64 x.kind)).setCell ⟨w.heap.size, k * 4 + 1, none⟩ (.int .i64 x.ts)).setCell ⟨w.heap.size, k * 4 + 2, none⟩ (.int .i64 x.beta)).setCell ⟨w.heap.size, k * 4 + 3, none⟩ (.slice (some ⟨b3, 0, none⟩) n3 n3)).frozen? ⟨w.heap.size, k * 4, none⟩ = false := (frozen_set (frozen_set (frozen_set (frozen_set hf0 ⟨w.heap.size, k * 4, none⟩ (.int .i64 x.kind)) ⟨w.heap.size, k * 4 + 1, none⟩ (.int .i64 x.ts)) ⟨w.heap.size, k * 4 + 2, none⟩ (.int .i64 x.beta)) ⟨w.heap.size, k * 4 + 3, none⟩ (.slice (some ⟨b3, 0, none⟩) n3 n3))
        have e1 : ((((w2.setCell ⟨w.heap.size, k * 4, none⟩ (.int .i64 x.kind)).setCell ⟨w.heap.size, k * 4 + 1, none⟩ (.int .i64 x.ts)).setCell ⟨w.heap.size, k * 4 + 2, none⟩ (.int .i64 x.beta)).setCell ⟨w.heap.size, k * 4 + 3, none⟩ (.slice (some ⟨b3, 0, none⟩) n3 n3)).cell? ⟨w.heap.size, k * 4 + 1, none⟩ = some (.int .i64 x.ts) := (cell_set (cell_set (World.cell?_setCell_same _ _ (.int .i64 x.ts) (cell_set hv1 ⟨w.heap.size, k * 4, none⟩ (.int .i64 x.kind) (.inr (by simp)))) ⟨w.heap.size, k * 4 + 2, none⟩ (.int .i64 x.beta) (.inr (by simp))) ⟨w.heap.size, k * 4 + 3, none⟩ (.slice (some ⟨b3, 0, none⟩) n3 n3) (.inr (by simp)))
        have u1 : ((((w2.setCell ⟨w.heap.size, k * 4, none⟩ (.int .i64 x.kind)).setCell ⟨w.heap.size, k * 4 + 1, none⟩ (.int .i64 x.ts)).setCell ⟨w.heap.size, k * 4 + 2, none⟩ (.int .i64 x.beta)).setCell ⟨w.heap.size, k * 4 + 3, none⟩ (.slice (some ⟨b3, 0, none⟩) n3 n3)).frozen? ⟨w.heap.size, k * 4 + 1, none⟩ = false := (frozen_set (frozen_set (frozen_set (frozen_set hf1 ⟨w.heap.size, k * 4, none⟩ (.int .i64 x.kind)) ⟨w.heap.size, k * 4 + 1, none⟩ (.int .i64 x.ts)) ⟨w.heap.size, k * 4 + 2, none⟩ (.int .i64 x.beta)) ⟨w.heap.size, k * 4 + 3, none⟩ (.slice (some ⟨b3, 0, none⟩) n3 n3))
        have e2 : ((((w2.setCell ⟨w.heap.size, k * 4, none⟩ (.int .i64 x.kind)).setCell ⟨w.heap.size, k * 4 + 1, none⟩ (.int .i64 x.ts)).setCell ⟨w.heap.size, k * 4 + 2, none⟩ (.int .i64 x.beta)).setCell ⟨w.heap.size, k * 4 + 3, none⟩ (.slice (some ⟨b3, 0, none⟩) n3 n3)).cell? ⟨w.heap.size, k * 4 + 2, none⟩ = some (.int .i64 x.beta) := (cell_set (World.cell?_setCell_same _ _ (.int .i64 x.beta) (cell_set (cell_set hv2 ⟨w.heap.size, k * 4, none⟩ (.int .i64 x.kind) (.inr (by simp))) ⟨w.heap.size, k * 4 + 1, none⟩ (.int .i64 x.ts) (.inr (by simp)))) ⟨w.heap.size, k * 4 + 3, none⟩ (.slice (some ⟨b3, 0, none⟩) n3 n3) (.inr (by simp)))
        have u2 : ((((w2.setCell ⟨w.heap.size, k * 4, none⟩ (.int .i64 x.kind)).setCell ⟨w.heap.size, k * 4 + 1, none⟩ (.int .i64 x.ts)).setCell ⟨w.heap.size, k * 4 + 2, none⟩ (.int .i64 x.beta)).setCell ⟨w.heap.size, k * 4 + 3, none⟩ (.slice (some ⟨b3, 0, none⟩) n3 n3)).frozen? ⟨w.heap.size, k * 4 + 2, none⟩ = false := (frozen_set (frozen_set (frozen_set (frozen_set hf2 ⟨w.heap.size, k * 4, none⟩ (.int .i64 x.kind)) ⟨w.heap.size, k * 4 + 1, none⟩ (.int .i64 x.ts)) ⟨w.heap.size, k * 4 + 2, none⟩ (.int .i64 x.beta)) ⟨w.heap.size, k * 4 + 3, none⟩ (.slice (some ⟨b3, 0, none⟩) n3 n3))
        have e3 : ((((w2.setCell ⟨w.heap.size, k * 4, none⟩ (.int .i64 x.kind)).setCell ⟨w.heap.size, k * 4 + 1, none⟩ (.int .i64 x.ts)).setCell ⟨w.heap.size, k * 4 + 2, none⟩ (.int .i64 x.beta)).setCell ⟨w.heap.size, k * 4 + 3, none⟩ (.slice (some ⟨b3, 0, none⟩) n3 n3)).cell? ⟨w.heap.size, k * 4 + 3, none⟩ = some (.slice (some ⟨b3, 0, none⟩) n3 n3) := (World.cell?_setCell_same _ _ (.slice (some ⟨b3, 0, none⟩) n3 n3) (cell_set (cell_set (cell_set hv3 ⟨w.heap.size, k * 4, none⟩ (.int .i64 x.kind) (.inr (by simp))) ⟨w.heap.size, k * 4 + 1, none⟩ (.int .i64 x.ts) (.inr (by simp))) ⟨w.heap.size, k * 4 + 2, none⟩ (.int .i64 x.beta) (.inr (by simp))))
        have u3 : ((((w2.setCell ⟨w.heap.size, k * 4, none⟩ (.int .i64 x.kind)).setCell ⟨w.heap.size, k * 4 + 1, none⟩ (.int .i64 x.ts)).setCell ⟨w.heap.size, k * 4 + 2, none⟩ (.int .i64 x.beta)).setCell ⟨w.heap.size, k * 4 + 3, none⟩ (.slice (some ⟨b3, 0, none⟩) n3 n3)).frozen? ⟨w.heap.size, k * 4 + 3, none⟩ = false := (frozen_set (frozen_set (frozen_set (frozen_set hf3 ⟨w.heap.size, k * 4, none⟩ (.int .i64 x.kind)) ⟨w.heap.size, k * 4 + 1, none⟩ (.int .i64 x.ts)) ⟨w.heap.size, k * 4 + 2, none⟩ (.int .i64 x.beta)) ⟨w.heap.size, k * 4 + 3, none⟩ (.slice (some ⟨b3, 0, none⟩) n3 n3))
        have w3_ := ((((o3.set ⟨w.heap.size, k * 4, none⟩ (.int .i64 x.kind) (.inl (by simp; omega))).set ⟨w.heap.size, k * 4 + 1, none⟩ (.int .i64 x.ts) (.inl (by simp; omega))).set ⟨w.heap.size, k * 4 + 2, none⟩ (.int .i64 x.beta) (.inl (by simp; omega))).set ⟨w.heap.size, k * 4 + 3, none⟩ (.slice (some ⟨b3, 0, none⟩) n3 n3) (.inl (by simp; omega)))
        have EK : owPathPart ((((w2.setCell ⟨w.heap.size, k * 4, none⟩ (.int .i64 x.kind)).setCell ⟨w.heap.size, k * 4 + 1, none⟩ (.int .i64 x.ts)).setCell ⟨w.heap.size, k * 4 + 2, none⟩ (.int .i64 x.beta)).setCell ⟨w.heap.size, k * 4 + 3, none⟩ (.slice (some ⟨b3, 0, none⟩) n3 n3)) (w.heap.size + 1) ((((w2.setCell ⟨w.heap.size, k * 4, none⟩ (.int .i64 x.kind)).setCell ⟨w.heap.size, k * 4 + 1, none⟩ (.int .i64 x.ts)).setCell ⟨w.heap.size, k * 4 + 2, none⟩ (.int .i64 x.beta)).setCell ⟨w.heap.size, k * 4 + 3, none⟩ (.slice (some ⟨b3, 0, none⟩) n3 n3)).heap.size w.heap.size (k * 4) x := ⟨_, _, _, _, ⟨e0, u0⟩, ⟨e1, u1⟩, ⟨e2, u2⟩, ⟨e3, u3⟩, w3_, (by omega), (by omega), (by have := hs3; omega)⟩
        have EE : ∀ i, i < k + 1 → owPathPart ((((w2.setCell ⟨w.heap.size, k * 4, none⟩ (.int .i64 x.kind)).setCell ⟨w.heap.size, k * 4 + 1, none⟩ (.int .i64 x.ts)).setCell ⟨w.heap.size, k * 4 + 2, none⟩ (.int .i64 x.beta)).setCell ⟨w.heap.size, k * 4 + 3, none⟩ (.slice (some ⟨b3, 0, none⟩) n3 n3)) (w.heap.size + 1) ((((w2.setCell ⟨w.heap.size, k * 4, none⟩ (.int .i64 x.kind)).setCell ⟨w.heap.size, k * 4 + 1, none⟩ (.int .i64 x.ts)).setCell ⟨w.heap.size, k * 4 + 2, none⟩ (.int .i64 x.beta)).setCell ⟨w.heap.size, k * 4 + 3, none⟩ (.slice (some ⟨b3, 0, none⟩) n3 n3)).heap.size w.heap.size (i * 4) (zs.getD i default) := by
          intro i hi'
          by_cases hi : i < k
          · rw [z2]; exact (EPathPart.ow_set (EPathPart.ow_set (EPathPart.ow_set (EPathPart.ow_set (EPathPart.ow_wide (EPathPart.ow_mk (HE.out i hi) m2 hsz (Nat.le_refl _) (.inr (Nat.zero_le _)) (.inr (.inr (Nat.zero_le _)))) m2.size) ⟨w.heap.size, k * 4, none⟩ (.int .i64 x.kind) (.inl (Nat.lt_succ_self _)) (.inr (.inr (show i * 4 + 4 ≤ k * 4 by omega)))) ⟨w.heap.size, k * 4 + 1, none⟩ (.int .i64 x.ts) (.inl (Nat.lt_succ_self _)) (.inr (.inr (show i * 4 + 4 ≤ k * 4 + 1 by omega)))) ⟨w.heap.size, k * 4 + 2, none⟩ (.int .i64 x.beta) (.inl (Nat.lt_succ_self _)) (.inr (.inr (show i * 4 + 4 ≤ k * 4 + 2 by omega)))) ⟨w.heap.size, k * 4 + 3, none⟩ (.slice (some ⟨b3, 0, none⟩) n3 n3) (.inl (Nat.lt_succ_self _)) (.inr (.inr (show i * 4 + 4 ≤ k * 4 + 3 by omega))))
          · obtain rfl : i = k := by omega
            rw [← hx.out]; exact EK
        exact ⟨k + 1, by omega, by go_num, ((((hF2.put _ _).put _ _).put _ _).put _ _), EE, ((((hM2.put _ _ (Nat.le_refl _)).put _ _ (Nat.le_refl _)).put _ _ (Nat.le_refl _)).put _ _ (Nat.le_refl _))⟩
      case measure => simp [intOf]; omega
    · obtain rfl : k = n := by omega
      go_wp2_with fail
      go_ret
      refine ⟨_, rfl, ⟨h.1, fun h0 => ?_⟩, hM⟩
      obtain ⟨v, hv, _⟩ := hF.any0 0 (by omega)
      have hlt2 := World.block_lt_of_cell? wr _ hv
      exact ⟨w.heap.size, 0, w.heap.size + 1, rfl, Nat.le_refl _, Nat.lt_succ_self _, hlt2, fun i hi => by rw [Nat.zero_add]; exact hE i hi⟩

set_option maxRecDepth 100000 in
set_option maxHeartbeats 4000000 in
theorem eqPathPartS (a a' : Option Addr) (n c c' B B' : Nat) (zs : List TPathPart) (w : World) (h : HasPathPart w B a n zs) (h' : HasPathPart w B' a' n zs) (hB : B ≤ w.heap.size) (hB' : B' ≤ w.heap.size) (hn : szPathPart zs n ≤ 1048576) :
    Calls Try.prog 95 #[.slice a n c, .slice a' n c'] w fun e w' => e = .returned (.bool true) ∧ Mk0 w w' := by
  have hn0 : n ≤ 1048576 := Nat.le_trans (szPathPart_n zs n) hn
  go_enter Try.func95, Try.ntmps95
  go_wp2_with fail
  go_loopw [4, 5] (fun r i wr => r = .bool false ∧ ∃ k : Nat, k ≤ n ∧ i = .int .i64 k ∧ Mk0 w wr) (fun _ i _ => n - (intOf i).toNat)
  case atStart => exact ⟨rfl, 0, Nat.zero_le _, rfl, Mk.refl _ _ _⟩
  case round =>
    obtain ⟨rfl, k, hk, rfl, hM⟩ := hrel
    by_cases hlt : k < n
    · obtain ⟨b, off, x, rfl, hb, hx, a3, n3, c3, d0, d1, d2, d3, r3, m3, t3, z3⟩ := HasPathPart.at _ _ _ _ _ _ (h.mk hM hB (.inr (Nat.le_refl _))) hlt
      obtain ⟨b', off', x', rfl, hb', hx', a3', n3', c3', s0, s1, s2, s3, r3', m3', t3', z3'⟩ := HasPathPart.at _ _ _ _ _ _ (h'.mk hM hB' (.inr (Nat.le_refl _))) hlt
      obtain rfl : x = x' := hx.out.trans hx'.out.symm
      obtain rfl : n3 = n3' := r3.1.symm.trans r3'.1
      have hs3 : n3 ≤ 1048576 := (by have HS := szPathPart_at zs hlt; rw [← hx.out] at HS; unfold sePathPart at HS; have := r3.1; omega)
      have hB1 := Nat.le_trans hB hM.size
      have hB1' := Nat.le_trans hB' hM.size
      go_wp2_with fail
      go_region_with (go_at_call 106; refine (eqPathPartC x.kind x.ts x.beta a3 a3' n3 c3 c3' x.hops B B' _ (r3.mk (Mk.drew1 _) hB1 (.inr (Nat.le_refl _))) (r3'.mk (Mk.drew1 _) hB1' (.inr (Nat.le_refl _))) hB1 hB1' hs3).mono ?_; rintro e w2 ⟨rfl, m2⟩)
      all_goals (
        have m3 : Mk0 wr w2 := ⟨m2.os, m2.tape, m2.output, m2.size, m2.block⟩
        clear m2 d0 s0 d1 s1 d2 s2 d3 s3
        refine ‹∀ (a : Act) (w : World), _ → _› _ _ ?_
        go_wp2_with fail
        go_roundw
        case rel => exact ⟨rfl, k + 1, by omega, by go_num, hM.trans m3⟩
        case measure => simp [intOf]; omega)
    · obtain rfl : k = n := by omega
      go_wp2_with fail
      go_ret
      exact ⟨rfl, hM⟩

set_option maxRecDepth 100000 in
set_option maxHeartbeats 4000000 in
theorem szPathPartSC (a : Option Addr) (n c B : Nat) (zs : List TPathPart) (l : Int) (w : World) (h : HasPathPart w B a n zs) (hB : B ≤ w.heap.size) (h0 : 0 ≤ l) (h1 : l ≤ 1048576) (hn : ((szPathPart zs n : Nat) : Int) ≤ l) :
    Calls Try.prog 87 #[.slice a n c, .int .i64 l] w fun e w' => ∃ l' : Int, l' = l - ((szPathPart zs n : Nat) : Int) ∧ e = .returned (.int .i64 l') ∧ Mk0 w w' := by
  have hS : szPathPart zs n = n + sumTo sePathPart zs n := rfl
  go_enter Try.func87, Try.ntmps87
  go_wp2_with fail
  go_loopw [1, 5] (fun q i wr => ∃ k : Nat, k ≤ n ∧ i = .int .i64 k ∧ q = .int .i64 (l - n - ((sumTo sePathPart zs k : Nat) : Int)) ∧ Hid (0 ≤ l - n - ((sumTo sePathPart zs k : Nat) : Int)) ∧ Mk0 w wr) (fun _ i _ => n - (intOf i).toNat)
  case atStart => exact ⟨0, Nat.zero_le _, rfl, by simp [sumTo], (show (0 : Int) ≤ l - n - ((sumTo sePathPart zs 0 : Nat) : Int) by simp only [sumTo]; omega), Mk.refl _ _ _⟩
  case round =>
    obtain ⟨k, hk, rfl, rfl, hq, hM⟩ := hrel
    have hq0 := hq.out
    by_cases hlt : k < n
    · obtain ⟨b, off, x, rfl, hb, hx, a3, n3, c3, d0, d1, d2, d3, r3, m3, t3, z3⟩ := HasPathPart.at _ _ _ _ _ _ (h.mk hM hB (.inr (Nat.le_refl _))) hlt
      have hS1 : sumTo sePathPart zs (k + 1) = sumTo sePathPart zs k + sePathPart x := by rw [sumTo, hx.out]
      have hS2 := sumTo_le sePathPart zs (show k + 1 ≤ n from hlt)
      have hse : sePathPart x = n3 := by unfold sePathPart; rw [r3.1]
      have hB1 := Nat.le_trans hB hM.size
      obtain ⟨L, hL⟩ : ∃ L : Int, Hid (L = l - n - ((sumTo sePathPart zs k : Nat) : Int)) := ⟨_, rfl⟩
      rw [← hL.out] at hq0 ⊢
      have hL' := hL.out
      have hLb : L ≤ 1048576 := by omega
      clear hq hL'
      go_wp2_with fail
      refine (szPathPartC _ _ _ a3 n3 c3 L _ hq0 hLb (by have := hL.out; omega)).mono ?_
      rintro e w2 ⟨l2, hl2, rfl, m2⟩
      have hl0 : 0 ≤ l2 := by have := hL.out; omega
      go_wp2_with fail
      go_roundw
      case rel => exact ⟨k + 1, by omega, by go_num, congrArg (Value.int .i64) (by have := hL.out; omega), (show (0 : Int) ≤ l - n - ((sumTo sePathPart zs (k + 1) : Nat) : Int) by have := hL.out; omega), hM.trans m2⟩
      case measure => simp [intOf]; omega
    · obtain rfl : k = n := by omega
      go_wp2_with fail
      go_ret
      exact ⟨_, by rw [hS]; omega, rfl, hM⟩

set_option maxRecDepth 100000 in
set_option maxHeartbeats 4000000 in
theorem szPathPartSB (a : Option Addr) (n c B : Nat) (zs : List TPathPart) (l : Int) (w : World) (h : HasPathPart w B a n zs) (hB : B ≤ w.heap.size) (h0 : 0 ≤ l) (h1 : l ≤ 1048576) (hn : l < ((szPathPart zs n : Nat) : Int)) (hm : n ≤ 9223372036854775807) :
    Calls Try.prog 87 #[.slice a n c, .int .i64 l] w fun e w' => e = .returned (.int .i64 (-1)) ∧ Mk0 w w' := by
  by_cases hbn : l < (n : Int)
  · go_enter Try.func87, Try.ntmps87
    go_wp2_with fail
    go_ret
    exact ⟨rfl, Mk.refl _ _ _⟩
  have hS : szPathPart zs n = n + sumTo sePathPart zs n := rfl
  go_enter Try.func87, Try.ntmps87
  go_wp2_with fail
  go_loopw [1, 5] (fun q i wr => ∃ k : Nat, k ≤ n ∧ i = .int .i64 k ∧ q = .int .i64 (l - n - ((sumTo sePathPart zs k : Nat) : Int)) ∧ Hid (0 ≤ l - n - ((sumTo sePathPart zs k : Nat) : Int)) ∧ Mk0 w wr) (fun _ i _ => n - (intOf i).toNat)
  case atStart => exact ⟨0, Nat.zero_le _, rfl, by simp [sumTo], (show (0 : Int) ≤ l - n - ((sumTo sePathPart zs 0 : Nat) : Int) by simp only [sumTo]; omega), Mk.refl _ _ _⟩
  case round =>
    obtain ⟨k, hk, rfl, rfl, hq, hM⟩ := hrel
    have hq0 := hq.out
    by_cases hlt : k < n
    · obtain ⟨b, off, x, rfl, hb, hx, a3, n3, c3, d0, d1, d2, d3, r3, m3, t3, z3⟩ := HasPathPart.at _ _ _ _ _ _ (h.mk hM hB (.inr (Nat.le_refl _))) hlt
      have hS1 : sumTo sePathPart zs (k + 1) = sumTo sePathPart zs k + sePathPart x := by rw [sumTo, hx.out]
      have hS2 := sumTo_le sePathPart zs (show k + 1 ≤ n from hlt)
      have hse : sePathPart x = n3 := by unfold sePathPart; rw [r3.1]
      have hB1 := Nat.le_trans hB hM.size
      obtain ⟨L, hL⟩ : ∃ L : Int, Hid (L = l - n - ((sumTo sePathPart zs k : Nat) : Int)) := ⟨_, rfl⟩
      rw [← hL.out] at hq0 ⊢
      have hL' := hL.out
      have hLb : L ≤ 1048576 := by omega
      clear hq hL'
      by_cases hfit : ((n3 : Nat) : Int) ≤ L
      · go_wp2_with fail
        refine (szPathPartC _ _ _ a3 n3 c3 L _ hq0 hLb (by omega)).mono ?_
        rintro e w2 ⟨l2, hl2, rfl, m2⟩
        have hl0 : 0 ≤ l2 := by omega
        go_wp2_with fail
        go_roundw
        case rel => exact ⟨k + 1, by omega, by go_num, congrArg (Value.int .i64) (by have := hL.out; omega), (show (0 : Int) ≤ l - n - ((sumTo sePathPart zs (k + 1) : Nat) : Int) by have := hL.out; omega), hM.trans m2⟩
        case measure => simp [intOf]; omega
      · go_wp2_with fail
        refine (szPathPartB _ _ _ a3 n3 c3 L _ hq0 hLb (by omega) (Nat.le_trans m3 t3)).mono ?_
        rintro e w2 ⟨rfl, m2⟩
        go_wp2_with fail
        go_ret
        exact ⟨rfl, hM.trans m2⟩
    · obtain rfl : k = n := by omega
      go_wp2_with fail
      go_ret
      exfalso
      have := hq.out
      omega

end Go.Proofs.Ytdlafigjkefllaa
