
/- AS: rows of them: the laws' copy, equality, marks and check. -/
import Derived.Test.YtdhdkhnefnbdgaaGreatDoorRows
import Derived.Test.YtdhdkhnefnbdgaaGreatDoorRow
import Derived.Handy
import Derived.OwnWalk
import Derived.Deep.QuietTactic
import Derived.BigQuiet
import Derived.Deep.RegionWith
import Derived.RegionTactic
namespace Go.Proofs.YtdhdkhnefnbdgaaGreatDoor
open Go.ChangeShapes Go.WideShapes Go.ChangeAt Go.RowKit
set_option linter.unusedVariables false
structure TAS where (isd : Int) (core : Bool) (key : Int)
instance : Inhabited TAS := ⟨⟨0, false, 0⟩⟩
def TAS.cell (x : TAS) : Nat → Value
  | 0 => .int .i64 x.isd
  | 1 => .bool x.core
  | _ => .int .i64 x.key
def TAS.fits (x : TAS) : Prop := (Lit.int .i64 x.isd).wf = true ∧ (Lit.int .i64 x.key).wf = true
abbrev HasAS (w : World) (B : Nat) (a : Option Addr) (n : Nat) (zs : List TAS) : Prop := HasR 3 TAS.cell w B a n zs
abbrev OwnAS (w : World) (lo hi : Nat) (a : Option Addr) (n : Nat) (zs : List TAS) : Prop := OwnR 3 TAS.cell w lo hi a n zs
theorem HasAS.at (w : World) (B n k : Nat) (a : Option Addr) (zs : List TAS) (h : HasAS w B a n zs) (hk : k < n) : ∃ b off x, a = some ⟨b, off, none⟩ ∧ b < B ∧ Hid (x = zs.getD k default) ∧ w.cell? ⟨b, off + k * 3, none⟩ = some (.int .i64 x.isd) ∧ w.cell? ⟨b, off + k * 3 + 1, none⟩ = some (.bool x.core) ∧ w.cell? ⟨b, off + k * 3 + 2, none⟩ = some (.int .i64 x.key) := by
  obtain ⟨b, off, x, e, hb, hx, hc⟩ := h.at_ hk
  exact ⟨b, off, x, e, hb, hx, hc 0 (by omega), hc 1 (by omega), hc 2 (by omega)⟩
theorem infoRAS : (Tryz.prog.info? 90).map (fun i => (i.zero, i.size, i.bytes)) = some (some (.agg #[.int .i64 0, .bool false, .int .i64 0]), 3, 24) := by kernel_rfl

set_option maxRecDepth 100000 in
set_option maxHeartbeats 800000 in
theorem toASV (x : TAS) (w : World) : Calls Tryz.prog 52 #[.agg #[.int .i64 x.isd, .bool x.core, .int .i64 x.key]] w fun e w' => e = .returned (.agg #[.int .i64 x.isd, .bool x.core, .int .i64 x.key]) ∧ Mk0 w w' := by
  go_enter Tryz.func52, Tryz.ntmps52
  go_wp2
  refine bodyPost_ret (v := .agg #[.int .i64 x.isd, .bool x.core, .int .i64 x.key]) (by simp [results, Tryz.results52, go_sem]) rfl ⟨rfl, Mk.of_below ?_⟩
  go_grown

theorem toASI (x0 : Int) (x1 : Bool) (x2 : Int) (w : World) : Calls Tryz.prog 52 #[.agg #[.int .i64 x0, .bool x1, .int .i64 x2]] w fun e w' => e = .returned (.agg #[.int .i64 x0, .bool x1, .int .i64 x2]) ∧ Mk0 w w' := toASV ⟨x0, x1, x2⟩ w

set_option maxRecDepth 100000 in
set_option maxHeartbeats 800000 in
theorem eqASV (x : TAS) (w : World) : Calls Tryz.prog 66 #[.agg #[.int .i64 x.isd, .bool x.core, .int .i64 x.key], .agg #[.int .i64 x.isd, .bool x.core, .int .i64 x.key]] w fun e w' => e = .returned (.bool true) ∧ Mk0 w w' := by
  go_enter Tryz.func66, Tryz.ntmps66
  go_wp2
  go_ret
  exact ⟨rfl, Mk.of_below (by go_grown)⟩

set_option maxRecDepth 100000 in
set_option maxHeartbeats 1600000 in
theorem toASS (a : Option Addr) (n c B : Nat) (zs : List TAS) (w : World) (h : HasAS w B a n zs) (hB : B ≤ w.heap.size) (hn : n ≤ 1048576) :
    Calls Tryz.prog 27 #[.slice a n c] w fun e w' => ∃ b, e = .returned (.slice (some ⟨b, 0, none⟩) n n) ∧ OwnAS w' w.heap.size w'.heap.size (some ⟨b, 0, none⟩) n zs ∧ Mk0 w w' := by
  obtain ⟨i0, hi, hz0, hz1, hz2⟩ := info_parts infoRAS
  have hu := Tryz.underlying32
  go_enter Tryz.func27, Tryz.ntmps27
  go_wp2_with (with_reducible refine wpList_make_full w rfl (.tmp 6) (.tmp 6) 32 rfl w.heap.size 90 i0 (.agg #[.int .i64 0, .bool false, .int .i64 0]) 3 hu hi hz0 hz1 .i64 .i64 n n n rfl rfl rfl rfl (by rw [hz2]; omega) (by unfold maxLen; omega) (Nat.le_refl _) ?_; intro w1 hown hgr)
  have hF := ownsRow_fillR hown (flat 3 TAS.cell zs)
  have hB1 : Below w.heap.size w w1 := (Below.refl _ _).grown hgr (Nat.le_refl _) (fun k hk => by cases hk)
  go_loopw [4] (fun i wr => ∃ k : Nat, k ≤ n ∧ i = .int .i64 k ∧ Fill wr w.heap.size 0 (n * 3) (k * 3) (flat 3 TAS.cell zs) ∧ Below w.heap.size w wr) (fun i _ => n - (intOf i).toNat)
  case atStart => exact ⟨0, Nat.zero_le _, rfl, by simpa using hF, hB1⟩
  case round =>
    clear hF hB1 hown hgr
    obtain ⟨k, hk, rfl, hF, hB1⟩ := hrel
    by_cases hlt : k < n
    · obtain ⟨b, off, x, rfl, hb, hx, c0, c1, c2⟩ := HasAS.at _ _ _ _ _ _ (h.mk (Mk.of_below hB1) hB (.inr (Nat.le_refl _))) hlt
      go_wp2_with fail
      refine (toASV x _).mono ?_
      rintro e w2 ⟨rfl, m2⟩
      have hsz : w.heap.size < wr.heap.size := by
        obtain ⟨v, hv, _⟩ := hF.any0 (k * 3) (by omega)
        exact World.block_lt_of_cell? wr _ hv
      have hF2 := hF.block (m2.block _ hsz (.inr (Nat.zero_le _)))
      have hB2 := m2.below hB1 hB1.size (.inr (Nat.zero_le _))
      clear hF hB1 m2 c0 c1 c2
      obtain ⟨v0, hv0, hf0⟩ := hF2.any0 (k * 3) (by omega)
      obtain ⟨v1, hv1, hf1⟩ := hF2.any0 (k * 3 + 1) (by omega)
      obtain ⟨v2, hv2, hf2⟩ := hF2.any0 (k * 3 + 2) (by omega)
      go_wp2_with fail
      go_roundw
      case rel =>
        have e0 : ∀ u : Unit, .int .i64 x.isd = flat 3 TAS.cell zs (k * 3) := fun _ => by rw [← Nat.add_zero (k * 3), flat_at zs k 0 (by omega), ← hx.out]; rfl
        have e1 : ∀ u : Unit, .bool x.core = flat 3 TAS.cell zs (k * 3 + 1) := fun _ => by rw [flat_at zs k 1 (by omega), ← hx.out]; rfl
        have e2 : ∀ u : Unit, .int .i64 x.key = flat 3 TAS.cell zs (k * 3 + 2) := fun _ => by rw [flat_at zs k 2 (by omega), ← hx.out]; rfl
        exact ⟨k + 1, by omega, by go_num, (Nat.succ_mul k 3).symm ▸ (((hF2.set0 (by omega) (e0 ())).set0 (by omega) (e1 ())).set0 (by omega) (e2 ())), (((hB2.setCell (Nat.le_refl _) _).setCell (Nat.le_refl _) _).setCell (Nat.le_refl _) _)⟩
      case measure => simp [intOf]; omega
    · obtain rfl : k = n := by omega
      go_wp2_with fail
      go_ret
      have hsz := hB1.size
      refine ⟨_, rfl, ?_, Mk.of_below hB1⟩
      by_cases hz : k = 0
      · subst hz
        obtain rfl : zs = [] := List.eq_nil_of_length_eq_zero h.1
        exact OwnR.none_ _ _ _ _
      · obtain ⟨v, hv, _⟩ := hF.any0 0 (by omega) 
        exact hF.ownR h.1 (fun i hi j hj => flat_at zs i j hj) (Nat.le_refl _) (World.block_lt_of_cell? wr _ hv) (by omega)

set_option maxRecDepth 100000 in
set_option maxHeartbeats 1600000 in
theorem eqASS (a a' : Option Addr) (n c c' B B' : Nat) (zs : List TAS) (w : World) (h : HasAS w B a n zs) (h' : HasAS w B' a' n zs) (hB : B ≤ w.heap.size) (hB' : B' ≤ w.heap.size) (hn : n ≤ 1073741824) :
    Calls Tryz.prog 38 #[.slice a n c, .slice a' n c'] w fun e w' => e = .returned (.bool true) ∧ Mk0 w w' := by
  go_enter Tryz.func38, Tryz.ntmps38
  go_wp2
  go_loopw [4, 5] (fun r i wr => r = .bool false ∧ ∃ k : Nat, k ≤ n ∧ i = .int .i64 k ∧ Mk0 w wr) (fun _ i _ => n - (intOf i).toNat)
  case atStart => exact ⟨rfl, 0, Nat.zero_le _, rfl, Mk.refl _ _ _⟩
  case round =>
    obtain ⟨rfl, k, hk, rfl, hM⟩ := hrel
    by_cases hlt : k < n
    · obtain ⟨b, off, x, rfl, hb, hx, c0, c1, c2⟩ := HasAS.at _ _ _ _ _ _ (h.mk hM hB (.inr (Nat.le_refl _))) hlt
      obtain ⟨b', off', x', rfl, hb', hx', d0, d1, d2⟩ := HasAS.at _ _ _ _ _ _ (h'.mk hM hB' (.inr (Nat.le_refl _))) hlt
      obtain rfl : x = x' := hx.out.trans hx'.out.symm
      go_wp2_with fail
      go_region_with (go_at_call 66; refine (eqASV x _).mono ?_; rintro e w2 ⟨rfl, m2⟩)
      all_goals (
        have m3 : Mk0 wr w2 := ⟨m2.os, m2.tape, m2.output, m2.size, m2.block⟩
        clear m2 c0 d0 c1 d1 c2 d2
        refine ‹∀ (a : Act) (w : World), _ → _› _ _ ?_
        go_wp2_with fail
        go_roundw
        case rel => exact ⟨rfl, k + 1, by omega, by go_num, hM.trans m3⟩
        case measure => simp [intOf]; omega)
    · obtain rfl : k = n := by omega
      go_wp2_with fail
      go_ret
      exact ⟨rfl, hM⟩
end Go.Proofs.YtdhdkhnefnbdgaaGreatDoor
