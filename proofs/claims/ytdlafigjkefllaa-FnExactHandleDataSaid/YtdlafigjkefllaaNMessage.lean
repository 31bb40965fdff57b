
/- Message: rows of them: the laws' copy, equality and size. -/
import Derived.Test.YtdlafigjkefllaaCMessage
import Derived.Test.YtdlafigjkefllaaNest
namespace Go.Proofs.Ytdlafigjkefllaa
open Go.ChangeShapes Go.WideShapes Go.ChangeAt Go.RowKit
set_option linter.unusedVariables false
structure TMessage where (data : List TByte)
instance : Inhabited TMessage := ⟨⟨[]⟩⟩
def elMessage (w : World) (B b o : Nat) (x : TMessage) : Prop := ∃ a0 n0 c0, w.cell? ⟨b, o, none⟩ = some (.slice a0 n0 c0) ∧ HasByte w B a0 n0 x.data ∧ n0 ≤ c0 ∧ c0 ≤ 9223372036854775807 ∧ (a0 = none → c0 = 0)
def owMessage (w : World) (lo hi b o : Nat) (x : TMessage) : Prop := ∃ g0 n0 l0 h0, (w.cell? ⟨b, o, none⟩ = some (.slice (some ⟨g0, 0, none⟩) n0 n0) ∧ w.frozen? ⟨b, o, none⟩ = false) ∧ OwnByte w l0 h0 (some ⟨g0, 0, none⟩) n0 x.data ∧ lo ≤ l0 ∧ h0 ≤ hi ∧ n0 ≤ 9223372036854775807
def EMessage : El TMessage where
  nc := 1
  pos := by decide
  el := elMessage
  far := fun h hm hb hB hr => by
    obtain ⟨a0, n0, c0, k0, r0, m0, t0, z0⟩ := h
    exact ⟨_, _, _, cell_kept k0 hm (by omega), r0.mk hm hB hr, m0, t0, z0⟩
  mono := fun h hB => by
    obtain ⟨a0, n0, c0, k0, r0, m0, t0, z0⟩ := h
    exact ⟨_, _, _, k0, r0.mono hB, m0, t0, z0⟩
  ow := owMessage
  ow_mk := fun h hm hb hB h1 h2 => by
    obtain ⟨g0, n0, l0, h0, ⟨k0, f0⟩, r0, p0, q0, t0⟩ := h
    exact ⟨_, _, _, _, ⟨cell_kept k0 hm h1, frozen_kept f0 hm hb h1⟩, r0.mk hm (by omega) (by omega), p0, q0, t0⟩
  ow_set := fun h p u h1 h2 => by
    obtain ⟨g0, n0, l0, h0, ⟨k0, f0⟩, r0, p0, q0, t0⟩ := h
    exact ⟨_, _, _, _, ⟨cell_set k0 p u (by omega), frozen_set f0 p u⟩, r0.set p u (by omega), p0, q0, t0⟩
  ow_has := fun h => by
    obtain ⟨g0, n0, l0, h0, ⟨k0, f0⟩, r0, p0, q0, t0⟩ := h
    exact ⟨_, _, _, k0, r0.has.mono (by omega), Nat.le_refl _, t0, (fun e => by cases e)⟩
  ow_wide := fun h hh => by
    obtain ⟨g0, n0, l0, h0, ⟨k0, f0⟩, r0, p0, q0, t0⟩ := h
    exact ⟨_, _, _, _, ⟨k0, f0⟩, r0, p0, Nat.le_trans q0 hh, t0⟩
abbrev HasMessage (w : World) (B : Nat) (a : Option Addr) (n : Nat) (zs : List TMessage) : Prop := HasD EMessage w B a n zs
abbrev OwnMessage (w : World) (lo hi : Nat) (a : Option Addr) (n : Nat) (zs : List TMessage) : Prop := OwnD EMessage w lo hi a n zs
def seMessage (x : TMessage) : Nat := x.data.length
def szMessage (ts : List TMessage) (n : Nat) : Nat := n + sumTo seMessage ts n
theorem szMessage_n (ts : List TMessage) (n : Nat) : n ≤ szMessage ts n := Nat.le_add_right _ _
theorem szMessage_at (ts : List TMessage) {k n : Nat} (h : k < n) : seMessage (ts.getD k default) + sumTo seMessage ts k + n ≤ szMessage ts n := by have := sumTo_at seMessage ts h; unfold szMessage; omega
theorem HasMessage.at (w : World) (B n k : Nat) (a : Option Addr) (zs : List TMessage) (h : HasMessage w B a n zs) (hk : k < n) : ∃ b off x, a = some ⟨b, off, none⟩ ∧ b < B ∧ Hid (x = zs.getD k default) ∧ ∃ a0 n0 c0, w.cell? ⟨b, off + k, none⟩ = some (.slice a0 n0 c0) ∧ HasByte w B a0 n0 x.data ∧ n0 ≤ c0 ∧ c0 ≤ 9223372036854775807 ∧ (a0 = none → c0 = 0) := by
  obtain ⟨b, off, x, e, hb, hx, hc⟩ := h.at_ hk
  have hc : elMessage w B b (off + k * 1) x := hc
  rw [Nat.mul_one] at hc
  obtain ⟨a0, n0, c0, k0, r0, m0, t0, z0⟩ := hc
  exact ⟨b, off, x, e, hb, hx, _, _, _, k0, r0, m0, t0, z0⟩
theorem infoRMessage : (Try.prog.info? 103).map (fun i => (i.zero, i.size, i.bytes)) = some (some (.agg #[.slice none 0 0]), 1, 24) := by kernel_rfl

set_option maxRecDepth 100000 in
set_option maxHeartbeats 4000000 in
theorem toMessageS (a : Option Addr) (n c B : Nat) (zs : List TMessage) (w : World) (h : HasMessage w B a n zs) (hB : B ≤ w.heap.size) (hn : szMessage zs n ≤ 1048576) :
    Calls Try.prog 60 #[.slice a n c] w fun e w' => ∃ b, e = .returned (.slice (some ⟨b, 0, none⟩) n n) ∧ OwnMessage w' w.heap.size w'.heap.size (some ⟨b, 0, none⟩) n zs ∧ Mk0 w w' := by
  have hn0 : n ≤ 1048576 := Nat.le_trans (szMessage_n zs n) hn
  obtain ⟨i0, hi, hz0, hz1, hz2⟩ := info_parts infoRMessage
  have hu := Try.underlying57
  go_enter Try.func60, Try.ntmps60
  go_wp2_with (with_reducible refine wpList_make_full w rfl (.tmp 6) (.tmp 6) 57 rfl w.heap.size 103 i0 (.agg #[.slice none 0 0]) 1 hu hi hz0 hz1 .i64 .i64 n n n rfl rfl rfl rfl (by rw [hz2]; omega) (by unfold maxLen; omega) (Nat.le_refl _) ?_; intro w1 hown hgr)
  have hF := ownsRow_fillR hown (fun _ => undef)
  have hM1 : Mk0 w w1 := Mk.of_below ((Below.refl _ _).grown hgr (Nat.le_refl _) (fun k hk => by cases hk))
  have hg1 : 0 < n → w.heap.size < w1.heap.size := fun h0 => by
    obtain ⟨v, hv, _⟩ := hF.any0 0 (by omega)
    exact World.block_lt_of_cell? w1 _ hv
  replace hF : Fill w1 w.heap.size 0 (n) 0 (fun _ => undef) := by intro j hj; obtain ⟨v, h1, h2, _⟩ := hF j (by omega); exact ⟨v, h1, h2, fun h => absurd h (by omega)⟩
  go_loopw [4] (fun i wr => ∃ k : Nat, k ≤ n ∧ i = .int .i64 k ∧ Fill wr w.heap.size 0 (n) 0 (fun _ => undef) ∧ (∀ i, i < k → owMessage wr (w.heap.size + 1) wr.heap.size w.heap.size (i) (zs.getD i default)) ∧ Mk0 w wr) (fun i _ => n - (intOf i).toNat)
  case atStart => exact ⟨0, Nat.zero_le _, rfl, hF, fun i hi => absurd hi (by omega), hM1⟩
  case round =>
    clear hF hM1 hown hgr hg1
    obtain ⟨k, hk, rfl, hF, hE, hM⟩ := hrel
    by_cases hlt : k < n
    · obtain ⟨b, off, x, rfl, hb, hx, a0, n0, c0, d0, r0, m0, t0, z0⟩ := HasMessage.at _ _ _ _ _ _ (h.mk hM hB (.inr (Nat.le_refl _))) hlt
      have hs0 : n0 ≤ 1048576 := (by have HS := szMessage_at zs hlt; rw [← hx.out] at HS; unfold seMessage at HS; have := r0.1; omega)
      have hsz : w.heap.size < wr.heap.size := by
        obtain ⟨v, hv, _⟩ := hF.any0 (k) (by omega)
        exact World.block_lt_of_cell? wr _ hv
      have HE := Lib.hid hE
      clear hE
      go_wp2_with fail
      refine (toMessageC a0 n0 c0 x.data B _ r0 (Nat.le_trans hB hM.size) hs0).mono ?_
      rintro e w2 ⟨b0, rfl, o0, q0, m2⟩
      have hF2 := hF.block (m2.block _ hsz (.inr (Nat.zero_le _)))
      have hM2 := hM.trans m2
      clear hF d0
      obtain ⟨v0, hv0, hf0⟩ := hF2.any0 (k) (by omega)
      go_wp2_with fail
      go_roundw
      case rel =>
        have z2 : (w2.setCell ⟨w.heap.size, k, none⟩ (.slice (some ⟨b0, 0, none⟩) n0 n0)).heap.size = w2.heap.size := by simp [World.setCell]
        have e0 : (w2.setCell ⟨w.heap.size, k, none⟩ (.slice (some ⟨b0, 0, none⟩) n0 n0)).cell? ⟨w.heap.size, k, none⟩ = some (.slice (some ⟨b0, 0, none⟩) n0 n0) := (World.cell?_setCell_same _ _ (.slice (some ⟨b0, 0, none⟩) n0 n0) hv0)
        have u0 : (w2.setCell ⟨w.heap.size, k, none⟩ (.slice (some ⟨b0, 0, none⟩) n0 n0)).frozen? ⟨w.heap.size, k, none⟩ = false := (frozen_set hf0 ⟨w.heap.size, k, none⟩ (.slice (some ⟨b0, 0, none⟩) n0 n0))
        have w0_ := (o0.set ⟨w.heap.size, k, none⟩ (.slice (some ⟨b0, 0, none⟩) n0 n0) (.inl (by simp; omega)))
        have EK : owMessage (w2.setCell ⟨w.heap.size, k, none⟩ (.slice (some ⟨b0, 0, none⟩) n0 n0)) (w.heap.size + 1) (w2.setCell ⟨w.heap.size, k, none⟩ (.slice (some ⟨b0, 0, none⟩) n0 n0)).heap.size w.heap.size (k) x := ⟨_, _, _, _, ⟨e0, u0⟩, w0_, (by omega), (by omega), (by have := hs0; omega)⟩
        have EE : ∀ i, i < k + 1 → owMessage (w2.setCell ⟨w.heap.size, k, none⟩ (.slice (some ⟨b0, 0, none⟩) n0 n0)) (w.heap.size + 1) (w2.setCell ⟨w.heap.size, k, none⟩ (.slice (some ⟨b0, 0, none⟩) n0 n0)).heap.size w.heap.size (i) (zs.getD i default) := by
          intro i hi'
          by_cases hi : i < k
          · rw [z2]; exact (EMessage.ow_set (EMessage.ow_wide (EMessage.ow_mk (HE.out i hi) m2 hsz (Nat.le_refl _) (.inr (Nat.zero_le _)) (.inr (.inr (Nat.zero_le _)))) m2.size) ⟨w.heap.size, k, none⟩ (.slice (some ⟨b0, 0, none⟩) n0 n0) (.inl (Nat.lt_succ_self _)) (.inr (.inr (show i + 1 ≤ k by omega))))
          · obtain rfl : i = k := by omega
            rw [← hx.out]; exact EK
        exact ⟨k + 1, by omega, by go_num, (hF2.put _ _), EE, (hM2.put _ _ (Nat.le_refl _))⟩
      case measure => simp [intOf]; omega
    · obtain rfl : k = n := by omega
      go_wp2_with fail
      go_ret
      refine ⟨_, rfl, ⟨h.1, fun h0 => ?_⟩, hM⟩
      obtain ⟨v, hv, _⟩ := hF.any0 0 (by omega)
      have hlt2 := World.block_lt_of_cell? wr _ hv
      exact ⟨w.heap.size, 0, w.heap.size + 1, rfl, Nat.le_refl _, Nat.lt_succ_self _, hlt2, fun i hi => by rw [Nat.zero_add]; show owMessage wr _ _ _ (i * 1) _; rw [Nat.mul_one]; exact hE i hi⟩

set_option maxRecDepth 100000 in
set_option maxHeartbeats 4000000 in
theorem eqMessageS (a a' : Option Addr) (n c c' B B' : Nat) (zs : List TMessage) (w : World) (h : HasMessage w B a n zs) (h' : HasMessage w B' a' n zs) (hB : B ≤ w.heap.size) (hB' : B' ≤ w.heap.size) (hn : szMessage zs n ≤ 1048576) :
    Calls Try.prog 65 #[.slice a n c, .slice a' n c'] w fun e w' => e = .returned (.bool true) ∧ Mk0 w w' := by
  have hn0 : n ≤ 1048576 := Nat.le_trans (szMessage_n zs n) hn
  go_enter Try.func65, Try.ntmps65
  go_wp2_with fail
  go_loopw [4, 5] (fun r i wr => r = .bool false ∧ ∃ k : Nat, k ≤ n ∧ i = .int .i64 k ∧ Mk0 w wr) (fun _ i _ => n - (intOf i).toNat)
  case atStart => exact ⟨rfl, 0, Nat.zero_le _, rfl, Mk.refl _ _ _⟩
  case round =>
    obtain ⟨rfl, k, hk, rfl, hM⟩ := hrel
    by_cases hlt : k < n
    · obtain ⟨b, off, x, rfl, hb, hx, a0, n0, c0, d0, r0, m0, t0, z0⟩ := HasMessage.at _ _ _ _ _ _ (h.mk hM hB (.inr (Nat.le_refl _))) hlt
      obtain ⟨b', off', x', rfl, hb', hx', a0', n0', c0', s0, r0', m0', t0', z0'⟩ := HasMessage.at _ _ _ _ _ _ (h'.mk hM hB' (.inr (Nat.le_refl _))) hlt
      obtain rfl : x = x' := hx.out.trans hx'.out.symm
      obtain rfl : n0 = n0' := r0.1.symm.trans r0'.1
      have hs0 : n0 ≤ 1048576 := (by have HS := szMessage_at zs hlt; rw [← hx.out] at HS; unfold seMessage at HS; have := r0.1; omega)
      have hB1 := Nat.le_trans hB hM.size
      have hB1' := Nat.le_trans hB' hM.size
      go_wp2_with fail
      go_region_with (go_at_call 94; refine (eqMessageC a0 a0' n0 c0 c0' x.data B B' _ (r0.mk (Mk.drew1 _) hB1 (.inr (Nat.le_refl _))) (r0'.mk (Mk.drew1 _) hB1' (.inr (Nat.le_refl _))) hB1 hB1' hs0).mono ?_; rintro e w2 ⟨rfl, m2⟩)
      all_goals (
        have m3 : Mk0 wr w2 := ⟨m2.os, m2.tape, m2.output, m2.size, m2.block⟩
        clear m2 d0 s0
        refine ‹∀ (a : Act) (w : World), _ → _› _ _ ?_
        go_wp2_with fail
        go_roundw
        case rel => exact ⟨rfl, k + 1, by omega, by go_num, hM.trans m3⟩
        case measure => simp [intOf]; omega)
    · obtain rfl : k = n := by omega
      go_wp2_with fail
      go_ret
      exact ⟨rfl, hM⟩

set_option maxRecDepth 100000 in
set_option maxHeartbeats 4000000 in
theorem szMessageSC (a : Option Addr) (n c B : Nat) (zs : List TMessage) (l : Int) (w : World) (h : HasMessage w B a n zs) (hB : B ≤ w.heap.size) (h0 : 0 ≤ l) (h1 : l ≤ 1048576) (hn : ((szMessage zs n : Nat) : Int) ≤ l) :
    Calls Try.prog 55 #[.slice a n c, .int .i64 l] w fun e w' => ∃ l' : Int, l' = l - ((szMessage zs n : Nat) : Int) ∧ e = .returned (.int .i64 l') ∧ Mk0 w w' := by
  have hS : szMessage zs n = n + sumTo seMessage zs n := rfl
  go_enter Try.func55, Try.ntmps55
  go_wp2_with fail
  go_loopw [1, 5] (fun q i wr => ∃ k : Nat, k ≤ n ∧ i = .int .i64 k ∧ q = .int .i64 (l - n - ((sumTo seMessage zs k : Nat) : Int)) ∧ Hid (0 ≤ l - n - ((sumTo seMessage zs k : Nat) : Int)) ∧ Mk0 w wr) (fun _ i _ => n - (intOf i).toNat)
  case atStart => exact ⟨0, Nat.zero_le _, rfl, by simp [sumTo], (show (0 : Int) ≤ l - n - ((sumTo seMessage zs 0 : Nat) : Int) by simp only [sumTo]; omega), Mk.refl _ _ _⟩
  case round =>
    obtain ⟨k, hk, rfl, rfl, hq, hM⟩ := hrel
    have hq0 := hq.out
    by_cases hlt : k < n
    · obtain ⟨b, off, x, rfl, hb, hx, a0, n0, c0, d0, r0, m0, t0, z0⟩ := HasMessage.at _ _ _ _ _ _ (h.mk hM hB (.inr (Nat.le_refl _))) hlt
      have hS1 : sumTo seMessage zs (k + 1) = sumTo seMessage zs k + seMessage x := by rw [sumTo, hx.out]
      have hS2 := sumTo_le seMessage zs (show k + 1 ≤ n from hlt)
      have hse : seMessage x = n0 := by unfold seMessage; rw [r0.1]
      have hB1 := Nat.le_trans hB hM.size
      obtain ⟨L, hL⟩ : ∃ L : Int, Hid (L = l - n - ((sumTo seMessage zs k : Nat) : Int)) := ⟨_, rfl⟩
      rw [← hL.out] at hq0 ⊢
      have hL' := hL.out
      have hLb : L ≤ 1048576 := by omega
      clear hq hL'
      go_wp2_with fail
      refine (szMessageC a0 n0 c0 L _ hq0 hLb (by have := hL.out; omega)).mono ?_
      rintro e w2 ⟨l2, hl2, rfl, m2⟩
      have hl0 : 0 ≤ l2 := by have := hL.out; omega
      go_wp2_with fail
      go_roundw
      case rel => exact ⟨k + 1, by omega, by go_num, congrArg (Value.int .i64) (by have := hL.out; omega), (show (0 : Int) ≤ l - n - ((sumTo seMessage zs (k + 1) : Nat) : Int) by have := hL.out; omega), hM.trans m2⟩
      case measure => simp [intOf]; omega
    · obtain rfl : k = n := by omega
      go_wp2_with fail
      go_ret
      exact ⟨_, by rw [hS]; omega, rfl, hM⟩

set_option maxRecDepth 100000 in
set_option maxHeartbeats 4000000 in
theorem szMessageSB (a : Option Addr) (n c B : Nat) (zs : List TMessage) (l : Int) (w : World) (h : HasMessage w B a n zs) (hB : B ≤ w.heap.size) (h0 : 0 ≤ l) (h1 : l ≤ 1048576) (hn : l < ((szMessage zs n : Nat) : Int)) (hm : n ≤ 9223372036854775807) :
    Calls Try.prog 55 #[.slice a n c, .int .i64 l] w fun e w' => e = .returned (.int .i64 (-1)) ∧ Mk0 w w' := by
  by_cases hbn : l < (n : Int)
  · go_enter Try.func55, Try.ntmps55
    go_wp2_with fail
    go_ret
    exact ⟨rfl, Mk.refl _ _ _⟩
  have hS : szMessage zs n = n + sumTo seMessage zs n := rfl
  go_enter Try.func55, Try.ntmps55
  go_wp2_with fail
  go_loopw [1, 5] (fun q i wr => ∃ k : Nat, k ≤ n ∧ i = .int .i64 k ∧ q = .int .i64 (l - n - ((sumTo seMessage zs k : Nat) : Int)) ∧ Hid (0 ≤ l - n - ((sumTo seMessage zs k : Nat) : Int)) ∧ Mk0 w wr) (fun _ i _ => n - (intOf i).toNat)
  case atStart => exact ⟨0, Nat.zero_le _, rfl, by simp [sumTo], (show (0 : Int) ≤ l - n - ((sumTo seMessage zs 0 : Nat) : Int) by simp only [sumTo]; omega), Mk.refl _ _ _⟩
  case round =>
    obtain ⟨k, hk, rfl, rfl, hq, hM⟩ := hrel
    have hq0 := hq.out
    by_cases hlt : k < n
    · obtain ⟨b, off, x, rfl, hb, hx, a0, n0, c0, d0, r0, m0, t0, z0⟩ := HasMessage.at _ _ _ _ _ _ (h.mk hM hB (.inr (Nat.le_refl _))) hlt
      have hS1 : sumTo seMessage zs (k + 1) = sumTo seMessage zs k + seMessage x := by rw [sumTo, hx.out]
      have hS2 := sumTo_le seMessage zs (show k + 1 ≤ n from hlt)
      have hse : seMessage x = n0 := by unfold seMessage; rw [r0.1]
      have hB1 := Nat.le_trans hB hM.size
      obtain ⟨L, hL⟩ : ∃ L : Int, Hid (L = l - n - ((sumTo seMessage zs k : Nat) : Int)) := ⟨_, rfl⟩
      rw [← hL.out] at hq0 ⊢
      have hL' := hL.out
      have hLb : L ≤ 1048576 := by omega
      clear hq hL'
      by_cases hfit : ((n0 : Nat) : Int) ≤ L
      · go_wp2_with fail
        refine (szMessageC a0 n0 c0 L _ hq0 hLb (by omega)).mono ?_
        rintro e w2 ⟨l2, hl2, rfl, m2⟩
        have hl0 : 0 ≤ l2 := by omega
        go_wp2_with fail
        go_roundw
        case rel => exact ⟨k + 1, by omega, by go_num, congrArg (Value.int .i64) (by have := hL.out; omega), (show (0 : Int) ≤ l - n - ((sumTo seMessage zs (k + 1) : Nat) : Int) by have := hL.out; omega), hM.trans m2⟩
        case measure => simp [intOf]; omega
      · go_wp2_with fail
        refine (szMessageB a0 n0 c0 L _ hq0 hLb (by omega) (Nat.le_trans m0 t0)).mono ?_
        rintro e w2 ⟨rfl, m2⟩
        go_wp2_with fail
        go_ret
        exact ⟨rfl, hM.trans m2⟩
    · obtain rfl : k = n := by omega
      go_wp2_with fail
      go_ret
      exfalso
      have := hq.out
      omega

end Go.Proofs.Ytdlafigjkefllaa
