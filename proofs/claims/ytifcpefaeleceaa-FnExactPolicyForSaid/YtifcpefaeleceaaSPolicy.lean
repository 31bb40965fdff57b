
/- Policy: rows of them: the laws' copy, equality, marks and check. -/
import Derived.Test.YtifcpefaeleceaaRows
import Derived.Test.YtifcpefaeleceaaRow
import Derived.Test.YtifcpefaeleceaaInfo
import Derived.Handy
import Derived.OwnWalk
import Derived.Deep.QuietTactic
import Derived.BigQuiet
import Derived.Deep.RegionWith
import Derived.RegionTactic
namespace Go.Proofs.Ytifcpefaeleceaa
open Go.ChangeShapes Go.WideShapes Go.ChangeAt Go.RowKit
set_option linter.unusedVariables false
structure TPolicy where (len : Int) (denied : Int) (closed : Int) (life : Int)
instance : Inhabited TPolicy := ⟨⟨0, 0, 0, 0⟩⟩
def TPolicy.cell (x : TPolicy) : Nat → Value
  | 0 => .int .i64 x.len
  | 1 => .int .i64 x.denied
  | 2 => .int .i64 x.closed
  | _ => .int .i64 x.life
def TPolicy.fits (x : TPolicy) : Prop := (Lit.int .i64 x.len).wf = true ∧ (Lit.int .i64 x.denied).wf = true ∧ (Lit.int .i64 x.closed).wf = true ∧ (Lit.int .i64 x.life).wf = true
abbrev HasPolicy (w : World) (B : Nat) (a : Option Addr) (n : Nat) (zs : List TPolicy) : Prop := HasR 4 TPolicy.cell w B a n zs
abbrev OwnPolicy (w : World) (lo hi : Nat) (a : Option Addr) (n : Nat) (zs : List TPolicy) : Prop := OwnR 4 TPolicy.cell w lo hi a n zs
theorem HasPolicy.at (w : World) (B n k : Nat) (a : Option Addr) (zs : List TPolicy) (h : HasPolicy w B a n zs) (hk : k < n) : ∃ b off x, a = some ⟨b, off, none⟩ ∧ b < B ∧ Hid (x = zs.getD k default) ∧ w.cell? ⟨b, off + k * 4, none⟩ = some (.int .i64 x.len) ∧ w.cell? ⟨b, off + k * 4 + 1, none⟩ = some (.int .i64 x.denied) ∧ w.cell? ⟨b, off + k * 4 + 2, none⟩ = some (.int .i64 x.closed) ∧ w.cell? ⟨b, off + k * 4 + 3, none⟩ = some (.int .i64 x.life) := by
  obtain ⟨b, off, x, e, hb, hx, hc⟩ := h.at_ hk
  exact ⟨b, off, x, e, hb, hx, hc 0 (by omega), hc 1 (by omega), hc 2 (by omega), hc 3 (by omega)⟩
theorem infoRPolicy : (Try.prog.info? 25).map (fun i => (i.zero, i.size, i.bytes)) = some (some (.agg #[.int .i64 0, .int .i64 0, .int .i64 0, .int .i64 0]), 4, 32) := by kernel_rfl

set_option maxRecDepth 100000 in
set_option maxHeartbeats 800000 in
theorem toPolicyV (x : TPolicy) (w : World) : Calls Try.prog 10 #[.agg #[.int .i64 x.len, .int .i64 x.denied, .int .i64 x.closed, .int .i64 x.life]] w fun e w' => e = .returned (.agg #[.int .i64 x.len, .int .i64 x.denied, .int .i64 x.closed, .int .i64 x.life]) ∧ Mk0 w w' := by
  go_enter Try.func10, Try.ntmps10
  go_wp2
  refine bodyPost_ret (v := .agg #[.int .i64 x.len, .int .i64 x.denied, .int .i64 x.closed, .int .i64 x.life]) (by simp [results, Try.results10, go_sem]) rfl ⟨rfl, Mk.of_below ?_⟩
  go_grown

theorem toPolicyI (x0 : Int) (x1 : Int) (x2 : Int) (x3 : Int) (w : World) : Calls Try.prog 10 #[.agg #[.int .i64 x0, .int .i64 x1, .int .i64 x2, .int .i64 x3]] w fun e w' => e = .returned (.agg #[.int .i64 x0, .int .i64 x1, .int .i64 x2, .int .i64 x3]) ∧ Mk0 w w' := toPolicyV ⟨x0, x1, x2, x3⟩ w

set_option maxRecDepth 100000 in
set_option maxHeartbeats 800000 in
theorem eqPolicyV (x : TPolicy) (w : World) : Calls Try.prog 14 #[.agg #[.int .i64 x.len, .int .i64 x.denied, .int .i64 x.closed, .int .i64 x.life], .agg #[.int .i64 x.len, .int .i64 x.denied, .int .i64 x.closed, .int .i64 x.life]] w fun e w' => e = .returned (.bool true) ∧ Mk0 w w' := by
  go_enter Try.func14, Try.ntmps14
  go_wp2
  go_ret
  exact ⟨rfl, Mk.of_below (by go_grown)⟩

set_option maxRecDepth 100000 in
set_option maxHeartbeats 1600000 in
theorem toPolicyS (a : Option Addr) (n c B : Nat) (zs : List TPolicy) (w : World) (h : HasPolicy w B a n zs) (hB : B ≤ w.heap.size) (hn : n ≤ 1048576) :
    Calls Try.prog 26 #[.slice a n c] w fun e w' => ∃ b, e = .returned (.slice (some ⟨b, 0, none⟩) n n) ∧ OwnPolicy w' w.heap.size w'.heap.size (some ⟨b, 0, none⟩) n zs ∧ Mk0 w w' := by
  obtain ⟨i0, hi, hz0, hz1, hz2⟩ := info_parts infoRPolicy
  have hu := Try.underlying48
  go_enter Try.func26, Try.ntmps26
  go_wp2_with (with_reducible refine wpList_make_full w rfl (.tmp 6) (.tmp 6) 48 rfl w.heap.size 25 i0 (.agg #[.int .i64 0, .int .i64 0, .int .i64 0, .int .i64 0]) 4 hu hi hz0 hz1 .i64 .i64 n n n rfl rfl rfl rfl (by rw [hz2]; omega) (by unfold maxLen; omega) (Nat.le_refl _) ?_; intro w1 hown hgr)
  have hF := ownsRow_fillR hown (flat 4 TPolicy.cell zs)
  have hB1 : Below w.heap.size w w1 := (Below.refl _ _).grown hgr (Nat.le_refl _) (fun k hk => by cases hk)
  go_loopw [4] (fun i wr => ∃ k : Nat, k ≤ n ∧ i = .int .i64 k ∧ Fill wr w.heap.size 0 (n * 4) (k * 4) (flat 4 TPolicy.cell zs) ∧ Below w.heap.size w wr) (fun i _ => n - (intOf i).toNat)
  case atStart => exact ⟨0, Nat.zero_le _, rfl, by simpa using hF, hB1⟩
  case round =>
    clear hF hB1 hown hgr
    obtain ⟨k, hk, rfl, hF, hB1⟩ := hrel
    by_cases hlt : k < n
    · obtain ⟨b, off, x, rfl, hb, hx, c0, c1, c2, c3⟩ := HasPolicy.at _ _ _ _ _ _ (h.mk (Mk.of_below hB1) hB (.inr (Nat.le_refl _))) hlt
      go_wp2_with fail
      refine (toPolicyV x _).mono ?_
      rintro e w2 ⟨rfl, m2⟩
      have hsz : w.heap.size < wr.heap.size := by
        obtain ⟨v, hv, _⟩ := hF.any0 (k * 4) (by omega)
        exact World.block_lt_of_cell? wr _ hv
      have hF2 := hF.block (m2.block _ hsz (.inr (Nat.zero_le _)))
      have hB2 := m2.below hB1 hB1.size (.inr (Nat.zero_le _))
      clear hF hB1 m2 c0 c1 c2 c3
      obtain ⟨v0, hv0, hf0⟩ := hF2.any0 (k * 4) (by omega)
      obtain ⟨v1, hv1, hf1⟩ := hF2.any0 (k * 4 + 1) (by omega)
      obtain ⟨v2, hv2, hf2⟩ := hF2.any0 (k * 4 + 2) (by omega)
      obtain ⟨v3, hv3, hf3⟩ := hF2.any0 (k * 4 + 3) (by omega)
      go_wp2_with fail
      go_roundw
      case rel =>
        have e0 : ∀ u : Unit, .int .i64 x.len = flat 4 TPolicy.cell zs (k * 4) := fun _ => by rw [← Nat.add_zero (k * 4), flat_at zs k 0 (by omega), ← hx.out]; rfl
        have e1 : ∀ u : Unit, .int .i64 x.denied = flat 4 TPolicy.cell zs (k * 4 + 1) := fun _ => by rw [flat_at zs k 1 (by omega), ← hx.out]; rfl
        have e2 : ∀ u : Unit, .int .i64 x.closed = flat 4 TPolicy.cell zs (k * 4 + 2) := fun _ => by rw [flat_at zs k 2 (by omega), ← hx.out]; rfl
        have e3 : ∀ u : Unit, .int .i64 x.life = flat 4 TPolicy.cell zs (k * 4 + 3) := fun _ => by rw [flat_at zs k 3 (by omega), ← hx.out]; rfl
        exact ⟨k + 1, by omega, by go_num, (Nat.succ_mul k 4).symm ▸ ((((hF2.set0 (by omega) (e0 ())).set0 (by omega) (e1 ())).set0 (by omega) (e2 ())).set0 (by omega) (e3 ())), ((((hB2.setCell (Nat.le_refl _) _).setCell (Nat.le_refl _) _).setCell (Nat.le_refl _) _).setCell (Nat.le_refl _) _)⟩
      case measure => simp [intOf]; omega
    · obtain rfl : k = n := by omega
      go_wp2_with fail
      go_ret
      have hsz := hB1.size
      refine ⟨_, rfl, ?_, Mk.of_below hB1⟩
      by_cases hz : k = 0
      · subst hz
        obtain rfl : zs = [] := List.eq_nil_of_length_eq_zero h.1
        exact OwnR.none_ _ _ _ _
      · obtain ⟨v, hv, _⟩ := hF.any0 0 (by omega) 
        exact hF.ownR h.1 (fun i hi j hj => flat_at zs i j hj) (Nat.le_refl _) (World.block_lt_of_cell? wr _ hv) (by omega)

set_option maxRecDepth 100000 in
set_option maxHeartbeats 1600000 in
theorem eqPolicyS (a a' : Option Addr) (n c c' B B' : Nat) (zs : List TPolicy) (w : World) (h : HasPolicy w B a n zs) (h' : HasPolicy w B' a' n zs) (hB : B ≤ w.heap.size) (hB' : B' ≤ w.heap.size) (hn : n ≤ 1073741824) :
    Calls Try.prog 28 #[.slice a n c, .slice a' n c'] w fun e w' => e = .returned (.bool true) ∧ Mk0 w w' := by
  go_enter Try.func28, Try.ntmps28
  go_wp2
  go_loopw [4, 5] (fun r i wr => r = .bool false ∧ ∃ k : Nat, k ≤ n ∧ i = .int .i64 k ∧ Mk0 w wr) (fun _ i _ => n - (intOf i).toNat)
  case atStart => exact ⟨rfl, 0, Nat.zero_le _, rfl, Mk.refl _ _ _⟩
  case round =>
    obtain ⟨rfl, k, hk, rfl, hM⟩ := hrel
    by_cases hlt : k < n
    · obtain ⟨b, off, x, rfl, hb, hx, c0, c1, c2, c3⟩ := HasPolicy.at _ _ _ _ _ _ (h.mk hM hB (.inr (Nat.le_refl _))) hlt
      obtain ⟨b', off', x', rfl, hb', hx', d0, d1, d2, d3⟩ := HasPolicy.at _ _ _ _ _ _ (h'.mk hM hB' (.inr (Nat.le_refl _))) hlt
      obtain rfl : x = x' := hx.out.trans hx'.out.symm
      go_wp2_with fail
      go_region_with (go_at_call 14; refine (eqPolicyV x _).mono ?_; rintro e w2 ⟨rfl, m2⟩)
      all_goals (
        have m3 : Mk0 wr w2 := ⟨m2.os, m2.tape, m2.output, m2.size, m2.block⟩
        clear m2 c0 d0 c1 d1 c2 d2 c3 d3
        refine ‹∀ (a : Act) (w : World), _ → _› _ _ ?_
        go_wp2_with fail
        go_roundw
        case rel => exact ⟨rfl, k + 1, by omega, by go_num, hM.trans m3⟩
        case measure => simp [intOf]; omega)
    · obtain rfl : k = n := by omega
      go_wp2_with fail
      go_ret
      exact ⟨rfl, hM⟩
end Go.Proofs.Ytifcpefaeleceaa
