
/- Hop: rows of them: the laws' copy, equality, marks and check. -/
import Derived.Test.YtdlafigjkefllaaRows
import Derived.Test.YtdlafigjkefllaaRow
import Derived.Handy
import Derived.OwnWalk
import Derived.Deep.QuietTactic
import Derived.BigQuiet
import Derived.Deep.RegionWith
import Derived.RegionTactic
namespace Go.Proofs.Ytdlafigjkefllaa
open Go.ChangeShapes Go.WideShapes Go.ChangeAt Go.RowKit
set_option linter.unusedVariables false
structure THop where (nd : Int) (ing : Int) (eg : Int) (exp : Int) (mac : Int)
instance : Inhabited THop := ⟨⟨0, 0, 0, 0, 0⟩⟩
def THop.cell (x : THop) : Nat → Value
  | 0 => .int .i64 x.nd
  | 1 => .int .i64 x.ing
  | 2 => .int .i64 x.eg
  | 3 => .int .i64 x.exp
  | _ => .int .i64 x.mac
def THop.fits (x : THop) : Prop := (Lit.int .i64 x.nd).wf = true ∧ (Lit.int .i64 x.ing).wf = true ∧ (Lit.int .i64 x.eg).wf = true ∧ (Lit.int .i64 x.exp).wf = true ∧ (Lit.int .i64 x.mac).wf = true
abbrev HasHop (w : World) (B : Nat) (a : Option Addr) (n : Nat) (zs : List THop) : Prop := HasR 5 THop.cell w B a n zs
abbrev OwnHop (w : World) (lo hi : Nat) (a : Option Addr) (n : Nat) (zs : List THop) : Prop := OwnR 5 THop.cell w lo hi a n zs
theorem HasHop.at (w : World) (B n k : Nat) (a : Option Addr) (zs : List THop) (h : HasHop w B a n zs) (hk : k < n) : ∃ b off x, a = some ⟨b, off, none⟩ ∧ b < B ∧ Hid (x = zs.getD k default) ∧ w.cell? ⟨b, off + k * 5, none⟩ = some (.int .i64 x.nd) ∧ w.cell? ⟨b, off + k * 5 + 1, none⟩ = some (.int .i64 x.ing) ∧ w.cell? ⟨b, off + k * 5 + 2, none⟩ = some (.int .i64 x.eg) ∧ w.cell? ⟨b, off + k * 5 + 3, none⟩ = some (.int .i64 x.exp) ∧ w.cell? ⟨b, off + k * 5 + 4, none⟩ = some (.int .i64 x.mac) := by
  obtain ⟨b, off, x, e, hb, hx, hc⟩ := h.at_ hk
  exact ⟨b, off, x, e, hb, hx, hc 0 (by omega), hc 1 (by omega), hc 2 (by omega), hc 3 (by omega), hc 4 (by omega)⟩
theorem infoRHop : (Try.prog.info? 115).map (fun i => (i.zero, i.size, i.bytes)) = some (some (.agg #[.int .i64 0, .int .i64 0, .int .i64 0, .int .i64 0, .int .i64 0]), 5, 40) := by kernel_rfl

set_option maxRecDepth 100000 in
set_option maxHeartbeats 800000 in
theorem toHopV (x : THop) (w : World) : Calls Try.prog 107 #[.agg #[.int .i64 x.nd, .int .i64 x.ing, .int .i64 x.eg, .int .i64 x.exp, .int .i64 x.mac]] w fun e w' => e = .returned (.agg #[.int .i64 x.nd, .int .i64 x.ing, .int .i64 x.eg, .int .i64 x.exp, .int .i64 x.mac]) ∧ Mk0 w w' := by
  go_enter Try.func107, Try.ntmps107
  go_wp2
  refine bodyPost_ret (v := .agg #[.int .i64 x.nd, .int .i64 x.ing, .int .i64 x.eg, .int .i64 x.exp, .int .i64 x.mac]) (by simp [results, Try.results107, go_sem]) rfl ⟨rfl, Mk.of_below ?_⟩
  go_grown

theorem toHopI (x0 : Int) (x1 : Int) (x2 : Int) (x3 : Int) (x4 : Int) (w : World) : Calls Try.prog 107 #[.agg #[.int .i64 x0, .int .i64 x1, .int .i64 x2, .int .i64 x3, .int .i64 x4]] w fun e w' => e = .returned (.agg #[.int .i64 x0, .int .i64 x1, .int .i64 x2, .int .i64 x3, .int .i64 x4]) ∧ Mk0 w w' := toHopV ⟨x0, x1, x2, x3, x4⟩ w

set_option maxRecDepth 100000 in
set_option maxHeartbeats 800000 in
theorem eqHopV (x : THop) (w : World) : Calls Try.prog 102 #[.agg #[.int .i64 x.nd, .int .i64 x.ing, .int .i64 x.eg, .int .i64 x.exp, .int .i64 x.mac], .agg #[.int .i64 x.nd, .int .i64 x.ing, .int .i64 x.eg, .int .i64 x.exp, .int .i64 x.mac]] w fun e w' => e = .returned (.bool true) ∧ Mk0 w w' := by
  go_enter Try.func102, Try.ntmps102
  go_wp2
  go_ret
  exact ⟨rfl, Mk.of_below (by go_grown)⟩

set_option maxRecDepth 100000 in
set_option maxHeartbeats 1600000 in
theorem toHopS (a : Option Addr) (n c B : Nat) (zs : List THop) (w : World) (h : HasHop w B a n zs) (hB : B ≤ w.heap.size) (hn : n ≤ 1048576) :
    Calls Try.prog 99 #[.slice a n c] w fun e w' => ∃ b, e = .returned (.slice (some ⟨b, 0, none⟩) n n) ∧ OwnHop w' w.heap.size w'.heap.size (some ⟨b, 0, none⟩) n zs ∧ Mk0 w w' := by
  obtain ⟨i0, hi, hz0, hz1, hz2⟩ := info_parts infoRHop
  have hu := Try.underlying80
  go_enter Try.func99, Try.ntmps99
  go_wp2_with (with_reducible refine wpList_make_full w rfl (.tmp 6) (.tmp 6) 80 rfl w.heap.size 115 i0 (.agg #[.int .i64 0, .int .i64 0, .int .i64 0, .int .i64 0, .int .i64 0]) 5 hu hi hz0 hz1 .i64 .i64 n n n rfl rfl rfl rfl (by rw [hz2]; omega) (by unfold maxLen; omega) (Nat.le_refl _) ?_; intro w1 hown hgr)
  have hF := ownsRow_fillR hown (flat 5 THop.cell zs)
  have hB1 : Below w.heap.size w w1 := (Below.refl _ _).grown hgr (Nat.le_refl _) (fun k hk => by cases hk)
  go_loopw [4] (fun i wr => ∃ k : Nat, k ≤ n ∧ i = .int .i64 k ∧ Fill wr w.heap.size 0 (n * 5) (k * 5) (flat 5 THop.cell zs) ∧ Below w.heap.size w wr) (fun i _ => n - (intOf i).toNat)
  case atStart => exact ⟨0, Nat.zero_le _, rfl, by simpa using hF, hB1⟩
  case round =>
    clear hF hB1 hown hgr
    obtain ⟨k, hk, rfl, hF, hB1⟩ := hrel
    by_cases hlt : k < n
    · obtain ⟨b, off, x, rfl, hb, hx, c0, c1, c2, c3, c4⟩ := HasHop.at _ _ _ _ _ _ (h.mk (Mk.of_below hB1) hB (.inr (Nat.le_refl _))) hlt
      go_wp2_with fail
      refine (toHopV x _).mono ?_
      rintro e w2 ⟨rfl, m2⟩
      have hsz : w.heap.size < wr.heap.size := by
        obtain ⟨v, hv, _⟩ := hF.any0 (k * 5) (by omega)
        exact World.block_lt_of_cell? wr _ hv
      have hF2 := hF.block (m2.block _ hsz (.inr (Nat.zero_le _)))
      have hB2 := m2.below hB1 hB1.size (.inr (Nat.zero_le _))
      clear hF hB1 m2 c0 c1 c2 c3 c4
      obtain ⟨v0, hv0, hf0⟩ := hF2.any0 (k * 5) (by omega)
      obtain ⟨v1, hv1, hf1⟩ := hF2.any0 (k * 5 + 1) (by omega)
      obtain ⟨v2, hv2, hf2⟩ := hF2.any0 (k * 5 + 2) (by omega)
      obtain ⟨v3, hv3, hf3⟩ := hF2.any0 (k * 5 + 3) (by omega)
      obtain ⟨v4, hv4, hf4⟩ := hF2.any0 (k * 5 + 4) (by omega)
      go_wp2_with fail
      go_roundw
      case rel =>
        have e0 : ∀ u : Unit, .int .i64 x.nd = flat 5 THop.cell zs (k * 5) := fun _ => by rw [← Nat.add_zero (k * 5), flat_at zs k 0 (by omega), ← hx.out]; rfl
        have e1 : ∀ u : Unit, .int .i64 x.ing = flat 5 THop.cell zs (k * 5 + 1) := fun _ => by rw [flat_at zs k 1 (by omega), ← hx.out]; rfl
        have e2 : ∀ u : Unit, .int .i64 x.eg = flat 5 THop.cell zs (k * 5 + 2) := fun _ => by rw [flat_at zs k 2 (by omega), ← hx.out]; rfl
        have e3 : ∀ u : Unit, .int .i64 x.exp = flat 5 THop.cell zs (k * 5 + 3) := fun _ => by rw [flat_at zs k 3 (by omega), ← hx.out]; rfl
        have e4 : ∀ u : Unit, .int .i64 x.mac = flat 5 THop.cell zs (k * 5 + 4) := fun _ => by rw [flat_at zs k 4 (by omega), ← hx.out]; rfl
        exact ⟨k + 1, by omega, by go_num, (Nat.succ_mul k 5).symm ▸ (((((hF2.set0 (by omega) (e0 ())).set0 (by omega) (e1 ())).set0 (by omega) (e2 ())).set0 (by omega) (e3 ())).set0 (by omega) (e4 ())), (((((hB2.setCell (Nat.le_refl _) _).setCell (Nat.le_refl _) _).setCell (Nat.le_refl _) _).setCell (Nat.le_refl _) _).setCell (Nat.le_refl _) _)⟩
      case measure => simp [intOf]; omega
    · obtain rfl : k = n := by omega
      go_wp2_with fail
      go_ret
      have hsz := hB1.size
      refine ⟨_, rfl, ?_, Mk.of_below hB1⟩
      by_cases hz : k = 0
      · subst hz
        obtain rfl : zs = [] := List.eq_nil_of_length_eq_zero h.1
        exact OwnR.none_ _ _ _ _
      · obtain ⟨v, hv, _⟩ := hF.any0 0 (by omega) 
        exact hF.ownR h.1 (fun i hi j hj => flat_at zs i j hj) (Nat.le_refl _) (World.block_lt_of_cell? wr _ hv) (by omega)

set_option maxRecDepth 100000 in
set_option maxHeartbeats 1600000 in
theorem eqHopS (a a' : Option Addr) (n c c' B B' : Nat) (zs : List THop) (w : World) (h : HasHop w B a n zs) (h' : HasHop w B' a' n zs) (hB : B ≤ w.heap.size) (hB' : B' ≤ w.heap.size) (hn : n ≤ 1073741824) :
    Calls Try.prog 81 #[.slice a n c, .slice a' n c'] w fun e w' => e = .returned (.bool true) ∧ Mk0 w w' := by
  go_enter Try.func81, Try.ntmps81
  go_wp2
  go_loopw [4, 5] (fun r i wr => r = .bool false ∧ ∃ k : Nat, k ≤ n ∧ i = .int .i64 k ∧ Mk0 w wr) (fun _ i _ => n - (intOf i).toNat)
  case atStart => exact ⟨rfl, 0, Nat.zero_le _, rfl, Mk.refl _ _ _⟩
  case round =>
    obtain ⟨rfl, k, hk, rfl, hM⟩ := hrel
    by_cases hlt : k < n
    · obtain ⟨b, off, x, rfl, hb, hx, c0, c1, c2, c3, c4⟩ := HasHop.at _ _ _ _ _ _ (h.mk hM hB (.inr (Nat.le_refl _))) hlt
      obtain ⟨b', off', x', rfl, hb', hx', d0, d1, d2, d3, d4⟩ := HasHop.at _ _ _ _ _ _ (h'.mk hM hB' (.inr (Nat.le_refl _))) hlt
      obtain rfl : x = x' := hx.out.trans hx'.out.symm
      go_wp2_with fail
      go_region_with (go_at_call 102; refine (eqHopV x _).mono ?_; rintro e w2 ⟨rfl, m2⟩)
      all_goals (
        have m3 : Mk0 wr w2 := ⟨m2.os, m2.tape, m2.output, m2.size, m2.block⟩
        clear m2 c0 d0 c1 d1 c2 d2 c3 d3 c4 d4
        refine ‹∀ (a : Act) (w : World), _ → _› _ _ ?_
        go_wp2_with fail
        go_roundw
        case rel => exact ⟨rfl, k + 1, by omega, by go_num, hM.trans m3⟩
        case measure => simp [intOf]; omega)
    · obtain rfl : k = n := by omega
      go_wp2_with fail
      go_ret
      exact ⟨rfl, hM⟩
end Go.Proofs.Ytdlafigjkefllaa
