
/- Signature: rows of them: the laws' copy, equality, marks and check. -/
import Derived.Test.YtgchhkgcdcknlaaDoorRows
import Derived.Test.YtgchhkgcdcknlaaDoorRow
import Derived.Test.YtgchhkgcdcknlaaDoorInfo
import Derived.Handy
import Derived.OwnWalk
import Derived.Deep.QuietTactic
import Derived.BigQuiet
import Derived.Deep.RegionWith
import Derived.RegionTactic
namespace Go.Proofs.YtgchhkgcdcknlaaDoor
open Go.ChangeShapes Go.WideShapes Go.ChangeAt Go.RowKit
set_option linter.unusedVariables false
structure TSignature where (nd : Int) (val : Int)
instance : Inhabited TSignature := ⟨⟨0, 0⟩⟩
def TSignature.cell (x : TSignature) : Nat → Value
  | 0 => .int .i64 x.nd
  | _ => .int .i64 x.val
def TSignature.fits (x : TSignature) : Prop := (Lit.int .i64 x.nd).wf = true ∧ (Lit.int .i64 x.val).wf = true
abbrev HasSignature (w : World) (B : Nat) (a : Option Addr) (n : Nat) (zs : List TSignature) : Prop := HasR 2 TSignature.cell w B a n zs
abbrev OwnSignature (w : World) (lo hi : Nat) (a : Option Addr) (n : Nat) (zs : List TSignature) : Prop := OwnR 2 TSignature.cell w lo hi a n zs
theorem HasSignature.at (w : World) (B n k : Nat) (a : Option Addr) (zs : List TSignature) (h : HasSignature w B a n zs) (hk : k < n) : ∃ b off x, a = some ⟨b, off, none⟩ ∧ b < B ∧ Hid (x = zs.getD k default) ∧ w.cell? ⟨b, off + k * 2, none⟩ = some (.int .i64 x.nd) ∧ w.cell? ⟨b, off + k * 2 + 1, none⟩ = some (.int .i64 x.val) := by
  obtain ⟨b, off, x, e, hb, hx, hc⟩ := h.at_ hk
  exact ⟨b, off, x, e, hb, hx, hc 0 (by omega), hc 1 (by omega)⟩
theorem infoRSignature : (Tryd.prog.info? 48).map (fun i => (i.zero, i.size, i.bytes)) = some (some (.agg #[.int .i64 0, .int .i64 0]), 2, 16) := by kernel_rfl

set_option maxRecDepth 100000 in
set_option maxHeartbeats 800000 in
theorem toSignatureV (x : TSignature) (w : World) : Calls Tryd.prog 34 #[.agg #[.int .i64 x.nd, .int .i64 x.val]] w fun e w' => e = .returned (.agg #[.int .i64 x.nd, .int .i64 x.val]) ∧ Mk0 w w' := by
  go_enter Tryd.func34, Tryd.ntmps34
  go_wp2
  refine bodyPost_ret (v := .agg #[.int .i64 x.nd, .int .i64 x.val]) (by simp [results, Tryd.results34, go_sem]) rfl ⟨rfl, Mk.of_below ?_⟩
  go_grown

theorem toSignatureI (x0 : Int) (x1 : Int) (w : World) : Calls Tryd.prog 34 #[.agg #[.int .i64 x0, .int .i64 x1]] w fun e w' => e = .returned (.agg #[.int .i64 x0, .int .i64 x1]) ∧ Mk0 w w' := toSignatureV ⟨x0, x1⟩ w

set_option maxRecDepth 100000 in
set_option maxHeartbeats 800000 in
theorem eqSignatureV (x : TSignature) (w : World) : Calls Tryd.prog 51 #[.agg #[.int .i64 x.nd, .int .i64 x.val], .agg #[.int .i64 x.nd, .int .i64 x.val]] w fun e w' => e = .returned (.bool true) ∧ Mk0 w w' := by
  go_enter Tryd.func51, Tryd.ntmps51
  go_wp2
  go_ret
  exact ⟨rfl, Mk.of_below (by go_grown)⟩

set_option maxRecDepth 100000 in
set_option maxHeartbeats 1600000 in
theorem toSignatureS (a : Option Addr) (n c B : Nat) (zs : List TSignature) (w : World) (h : HasSignature w B a n zs) (hB : B ≤ w.heap.size) (hn : n ≤ 1048576) :
    Calls Tryd.prog 25 #[.slice a n c] w fun e w' => ∃ b, e = .returned (.slice (some ⟨b, 0, none⟩) n n) ∧ OwnSignature w' w.heap.size w'.heap.size (some ⟨b, 0, none⟩) n zs ∧ Mk0 w w' := by
  obtain ⟨i0, hi, hz0, hz1, hz2⟩ := info_parts infoRSignature
  have hu := Tryd.underlying27
  go_enter Tryd.func25, Tryd.ntmps25
  go_wp2_with (with_reducible refine wpList_make_full w rfl (.tmp 6) (.tmp 6) 27 rfl w.heap.size 48 i0 (.agg #[.int .i64 0, .int .i64 0]) 2 hu hi hz0 hz1 .i64 .i64 n n n rfl rfl rfl rfl (by rw [hz2]; omega) (by unfold maxLen; omega) (Nat.le_refl _) ?_; intro w1 hown hgr)
  have hF := ownsRow_fillR hown (flat 2 TSignature.cell zs)
  have hB1 : Below w.heap.size w w1 := (Below.refl _ _).grown hgr (Nat.le_refl _) (fun k hk => by cases hk)
  go_loopw [4] (fun i wr => ∃ k : Nat, k ≤ n ∧ i = .int .i64 k ∧ Fill wr w.heap.size 0 (n * 2) (k * 2) (flat 2 TSignature.cell zs) ∧ Below w.heap.size w wr) (fun i _ => n - (intOf i).toNat)
  case atStart => exact ⟨0, Nat.zero_le _, rfl, by simpa using hF, hB1⟩
  case round =>
    clear hF hB1 hown hgr
    obtain ⟨k, hk, rfl, hF, hB1⟩ := hrel
    by_cases hlt : k < n
    · obtain ⟨b, off, x, rfl, hb, hx, c0, c1⟩ := HasSignature.at _ _ _ _ _ _ (h.mk (Mk.of_below hB1) hB (.inr (Nat.le_refl _))) hlt
      go_wp2_with fail
      refine (toSignatureV x _).mono ?_
      rintro e w2 ⟨rfl, m2⟩
      have hsz : w.heap.size < wr.heap.size := by
        obtain ⟨v, hv, _⟩ := hF.any0 (k * 2) (by omega)
        exact World.block_lt_of_cell? wr _ hv
      have hF2 := hF.block (m2.block _ hsz (.inr (Nat.zero_le _)))
      have hB2 := m2.below hB1 hB1.size (.inr (Nat.zero_le _))
      clear hF hB1 m2 c0 c1
      obtain ⟨v0, hv0, hf0⟩ := hF2.any0 (k * 2) (by omega)
      obtain ⟨v1, hv1, hf1⟩ := hF2.any0 (k * 2 + 1) (by omega)
      go_wp2_with fail
      go_roundw
      case rel =>
        have e0 : ∀ u : Unit, .int .i64 x.nd = flat 2 TSignature.cell zs (k * 2) := fun _ => by rw [← Nat.add_zero (k * 2), flat_at zs k 0 (by omega), ← hx.out]; rfl
        have e1 : ∀ u : Unit, .int .i64 x.val = flat 2 TSignature.cell zs (k * 2 + 1) := fun _ => by rw [flat_at zs k 1 (by omega), ← hx.out]; rfl
        exact ⟨k + 1, by omega, by go_num, (Nat.succ_mul k 2).symm ▸ ((hF2.set0 (by omega) (e0 ())).set0 (by omega) (e1 ())), ((hB2.setCell (Nat.le_refl _) _).setCell (Nat.le_refl _) _)⟩
      case measure => simp [intOf]; omega
    · obtain rfl : k = n := by omega
      go_wp2_with fail
      go_ret
      have hsz := hB1.size
      refine ⟨_, rfl, ?_, Mk.of_below hB1⟩
      by_cases hz : k = 0
      · subst hz
        obtain rfl : zs = [] := List.eq_nil_of_length_eq_zero h.1
        exact OwnR.none_ _ _ _ _
      · obtain ⟨v, hv, _⟩ := hF.any0 0 (by omega) 
        exact hF.ownR h.1 (fun i hi j hj => flat_at zs i j hj) (Nat.le_refl _) (World.block_lt_of_cell? wr _ hv) (by omega)

set_option maxRecDepth 100000 in
set_option maxHeartbeats 1600000 in
theorem eqSignatureS (a a' : Option Addr) (n c c' B B' : Nat) (zs : List TSignature) (w : World) (h : HasSignature w B a n zs) (h' : HasSignature w B' a' n zs) (hB : B ≤ w.heap.size) (hB' : B' ≤ w.heap.size) (hn : n ≤ 1073741824) :
    Calls Tryd.prog 28 #[.slice a n c, .slice a' n c'] w fun e w' => e = .returned (.bool true) ∧ Mk0 w w' := by
  go_enter Tryd.func28, Tryd.ntmps28
  go_wp2
  go_loopw [4, 5] (fun r i wr => r = .bool false ∧ ∃ k : Nat, k ≤ n ∧ i = .int .i64 k ∧ Mk0 w wr) (fun _ i _ => n - (intOf i).toNat)
  case atStart => exact ⟨rfl, 0, Nat.zero_le _, rfl, Mk.refl _ _ _⟩
  case round =>
    obtain ⟨rfl, k, hk, rfl, hM⟩ := hrel
    by_cases hlt : k < n
    · obtain ⟨b, off, x, rfl, hb, hx, c0, c1⟩ := HasSignature.at _ _ _ _ _ _ (h.mk hM hB (.inr (Nat.le_refl _))) hlt
      obtain ⟨b', off', x', rfl, hb', hx', d0, d1⟩ := HasSignature.at _ _ _ _ _ _ (h'.mk hM hB' (.inr (Nat.le_refl _))) hlt
      obtain rfl : x = x' := hx.out.trans hx'.out.symm
      go_wp2_with fail
      go_region_with (go_at_call 51; refine (eqSignatureV x _).mono ?_; rintro e w2 ⟨rfl, m2⟩)
      all_goals (
        have m3 : Mk0 wr w2 := ⟨m2.os, m2.tape, m2.output, m2.size, m2.block⟩
        clear m2 c0 d0 c1 d1
        refine ‹∀ (a : Act) (w : World), _ → _› _ _ ?_
        go_wp2_with fail
        go_roundw
        case rel => exact ⟨rfl, k + 1, by omega, by go_num, hM.trans m3⟩
        case measure => simp [intOf]; omega)
    · obtain rfl : k = n := by omega
      go_wp2_with fail
      go_ret
      exact ⟨rfl, hM⟩
end Go.Proofs.YtgchhkgcdcknlaaDoor
