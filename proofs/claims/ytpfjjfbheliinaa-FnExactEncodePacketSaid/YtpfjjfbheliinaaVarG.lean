
/- A row of the call's own that grows by calls: only its own block turns. -/
import Derived.Test.YtpfjjfbheliinaaApp
import Derived.Test.YtpfjjfbheliinaaAppR
import Derived.Test.YtpfjjfbheliinaaRow
import Derived.Test.YtpfjjfbheliinaaVarint
namespace Go.Proofs.Ytpfjjfbheliinaa
open Go.ChangeShapes Go.WideShapes Go.ChangeAt Go.RowKit
set_option linter.unusedVariables false
structure Gro (v v' : Value) (w w' : World) : Prop where
  by_ : w.grownBy w' v.ownBlock
  own : v'.ownBlock = v.ownBlock ∨ ∃ b, v'.ownBlock = some b ∧ w.heap.size ≤ b
theorem Gro.refl (v : Value) (w : World) : Gro v v w w := ⟨World.grownBy.refl w _, .inl rfl⟩
theorem Gro.size {v v' : Value} {w w' : World} (h : Gro v v' w w') : w.heap.size ≤ w'.heap.size := h.by_.size
theorem Gro.trans {v v' v'' : Value} {w w' w'' : World} (h : Gro v v' w w') (k : Gro v' v'' w' w'') : Gro v v'' w w'' := by
  refine ⟨⟨k.by_.os.trans h.by_.os, k.by_.tape.trans h.by_.tape, k.by_.output.trans h.by_.output, Nat.le_trans h.by_.size k.by_.size, fun p hp hne => ?_⟩, ?_⟩
  · refine (k.by_.block p (Nat.lt_of_lt_of_le hp h.by_.size) ?_).trans (h.by_.block p hp hne)
    rcases h.own with e | ⟨b, e, hb⟩
    · rw [e]; exact hne
    · rw [e]; intro e'; injection e' with e'; omega
  · rcases k.own with e | ⟨b, e, hb⟩
    · rw [e]; exact h.own
    · exact .inr ⟨b, e, Nat.le_trans h.by_.size hb⟩
theorem Gro.of0 {w w' : World} (m : Mk0 w w') (v : Value) : Gro v v w w' := ⟨⟨m.os, m.tape, m.output, m.size, fun p hp _ => m.block p hp (.inr (Nat.zero_le _))⟩, .inl rfl⟩
theorem Gro.of {v v' : Value} {w w' : World} (h : w.grownBy w' v.ownBlock) (e : v'.ownBlock = v.ownBlock ∨ v'.ownBlock = some w.heap.size) : Gro v v' w w' :=
  ⟨h, e.imp_right fun e => ⟨_, e, Nat.le_refl _⟩⟩
theorem Gro.below {v v' : Value} {w w' : World} {lo : Nat} (h : Gro v v' w w') (hl : ∀ g, v.ownBlock = some g → lo ≤ g) (hlo : lo ≤ w.heap.size) : Below lo w w' :=
  ⟨h.by_.os, h.by_.tape, h.by_.output, h.by_.size, fun p hp => h.by_.block p (by omega) (fun e => by have := hl p e.symm; omega)⟩
theorem Gro.mk0 {v v' : Value} {w0 w w' : World} (h : Gro v v' w w') (m : Mk0 w0 w) (hl : ∀ g, v.ownBlock = some g → w0.heap.size ≤ g) : Mk0 w0 w' := m.appR h.by_ hl
theorem Gro.row {nc : Nat} {α : Type} [Inhabited α] {cell : α → Nat → Value} {lo hi n : Nat} {a : Option Addr} {zs : List α} {v v' : Value} {w w' : World} (h : Gro v v' w w') (o : OwnR nc cell w lo hi a n zs) (hr : ∀ q, v.ownBlock = some q → q < lo ∨ hi ≤ q) (hh : hi ≤ w.heap.size) : OwnR nc cell w' lo hi a n zs := o.grown h.by_ hr hh
theorem Gro.cell {v v' : Value} {w w' : World} (h : Gro v v' w w') {b o : Nat} {u : Value} (hc : w.cell? ⟨b, o, none⟩ = some u) (hr : v.ownBlock ≠ some b) : w'.cell? ⟨b, o, none⟩ = some u :=
  h.by_.cell hc (fun e => hr e.symm)
end Go.Proofs.Ytpfjjfbheliinaa
namespace Go.Proofs.Ytpfjjfbheliinaa
open Go.ChangeShapes Go.WideShapes Go.ChangeAt Go.RowKit
set_option linter.unusedVariables false
set_option maxRecDepth 100000 in
set_option maxHeartbeats 1600000 in
theorem addVarintG (v : Value) (n : Int) (L lo : Nat) (bs : List Int) (w : World) (hown : w.ownsRow lo 5 1 v L (bs.map (.int .u8))) (hlo : lo ≤ w.heap.size) (hL : L ≤ 1073741800) :
    Calls Try.prog 151 #[v, .int .i64 n] w fun e w' => ∃ v', e = .returned v' ∧ w'.ownsRow lo 5 1 v' (L + (vb n).length) ((bs ++ vb n).map (.int .u8)) ∧ Gro v v' w w' := by
  by_cases h0 : 0 ≤ n
  · by_cases h1 : n ≤ 1000000000000
    · have d1 : decide (n ≤ 1000000000000) = true := by simp; omega
      obtain ⟨N, rfl⟩ := Int.eq_ofNat_of_zero_le h0
      have hN : N ≤ 1000000000000 := by omega
      rw [show vb (N : Int) = vlist N from vb_in hN]
      obtain ⟨l6, l1⟩ := vlist_len6 hN
      obtain ⟨q, hq⟩ : ∃ q, q = (vlist N).length := ⟨_, rfl⟩
      rw [← hq] at l6 l1 ⊢
      have HQ := Lib.hid hq
      clear hq
      obtain ⟨T, hT⟩ : ∃ T, T = bs ++ vlist N := ⟨_, rfl⟩
      have hTl : T.length = L + q := by rw [hT, List.length_append, ← HQ.out]; have := hown.1; simp at this; omega
      rw [← hT]
      have HT := Lib.hid hT
      have HTl := Lib.hid hTl
      clear hT hTl
      have HO := Lib.hid hown
      clear hown
      obtain ⟨i0, hi, hz0, hz1, hz2⟩ := info_parts infoU8
      go_enter Try.func151, Try.ntmps151
      go_wp2_with fail
      refine (implInYes _ _ _ _ (by omega) (by omega)).mono ?_
      rintro e w' ⟨rfl, rfl⟩
      go_wp2_with fail
      go_loopw [0, 1] (fun s i wr => ∃ (m M : Nat) (zs : List Int), m ≤ 1000000000000 ∧ i = .int .i64 m ∧ M ≤ L + 6 ∧ Hid (zs ++ vlist m = T) ∧ wr.ownsRow lo 5 1 s M (zs.map (.int .u8)) ∧ Gro v s w wr) (fun _ i _ => (intOf i).toNat)
      case atStart => exact ⟨N, L, bs, hN, rfl, by omega, HT.out.symm, HO.out, Gro.refl _ _⟩
      case round =>
        obtain ⟨m, M, zs, hm, rfl, hM, hz, ho, hb⟩ := hrel
        have hsz := hb.size
        by_cases hlt : 128 ≤ m
        · have hlt' : (128 : Int) ≤ (m : Int) := by omega
          have hdv := (vlist_len6 (n := m / 128) (by omega)).2
          obtain ⟨y, hy⟩ : ∃ y : Int, y = ((m % 128 + 128 : Nat) : Int) := ⟨_, rfl⟩
          have y1 : 128 ≤ y := by omega
          have y2 : y ≤ 255 := by omega
          have hz' : Hid ((zs ++ [y]) ++ vlist (m / 128) = T) := by rw [← hz.out, vlist_big hlt, hy]; simp [Hid]
          have hMl : M + 1 + (vlist (m / 128)).length = L + q := by
            have e := hz'.out
            have := congrArg List.length e
            simp only [List.length_append, List.length_cons, List.length_nil] at this
            have h1 := ho.1
            simp at h1
            rw [HTl.out] at this
            omega
          have hM1 : M + 1 ≤ L + 6 := by omega
          have ey : (m : Int) % 128 + 128 = y := by omega
          have ew : y % 256 = y := by omega
          have hn1 := has_new .u8 wr 5 y
          have ho' := ho.alloc (.cells #[.int .u8 y] 5)
          have hb' := hb.trans (Gro.of0 (Mk.alloc wr (.cells #[.int .u8 y] 5)) _)
          have hlo' : lo ≤ (wr.alloc (.cells #[.int .u8 y] 5)).heap.size := by simp; omega
          clear hdv hMl hy
          go_wp2_with (at_builtin; refine wpList_app rfl (.tmp 13) (.tmp 18) 63 rfl lo 5 i0 Try.underlying63 hi hz0 hz1 (by rw [hz2]; decide) _ zs M rfl ho' _ 1 1 [y] rfl (fun h => by cases h) hn1 (by omega) hlo' ?_; intro v2 w2 ho2 hg2 hx2)
          have hb2 := hb'.trans (Gro.of hg2 hx2)
          go_roundw
          case rel => exact ⟨m / 128, M + 1, zs ++ [y], by omega, by go_num, hM1, hz', ho2, hb2⟩
          case measure => simp [intOf]; omega
        · have hlt' : (m : Int) < 128 := by omega
          obtain ⟨y, hy⟩ : ∃ y : Int, y = (m : Int) := ⟨_, rfl⟩
          have y1 : 0 ≤ y := by omega
          have y2 : y < 128 := by omega
          have hz' : Hid (zs ++ [y] = T) := by rw [← hz.out, vlist_small (by omega), hy]; rfl
          have hMl : M + 1 = L + q := by
            have e := hz'.out
            have := congrArg List.length e
            simp only [List.length_append, List.length_cons, List.length_nil] at this
            have h1 := ho.1
            simp at h1
            rw [HTl.out] at this
            omega
          have HM := Lib.hid hMl
          have hM1 : M + 1 ≤ L + 6 := by omega
          have ew : y % 256 = y := by omega
          have hn1 := has_new .u8 wr 5 y
          have ho' := ho.alloc (.cells #[.int .u8 y] 5)
          have hb' := hb.trans (Gro.of0 (Mk.alloc wr (.cells #[.int .u8 y] 5)) _)
          have hlo' : lo ≤ (wr.alloc (.cells #[.int .u8 y] 5)).heap.size := by simp; omega
          rw [← hy]
          clear hMl hy hlt
          go_wp2_with (at_builtin; refine wpList_app rfl (.tmp 20) (.tmp 23) 63 rfl lo 5 i0 Try.underlying63 hi hz0 hz1 (by rw [hz2]; decide) _ zs M rfl ho' _ 1 1 [y] rfl (fun h => by cases h) hn1 (by omega) hlo' ?_; intro v2 w2 ho2 hg2 hx2)
          have hb2 := hb'.trans (Gro.of hg2 hx2)
          go_ret
          exact ⟨v2, rfl, by rw [← HM.out, ← hz'.out]; exact ho2, hb2⟩
    · have hv : vb n = [] := if_neg (by omega)
      have d1 : decide (n ≤ 1000000000000) = false := by simp; omega
      rw [hv]
      clear hv
      have HO := Lib.hid hown
      clear hown
      go_enter Try.func151, Try.ntmps151
      go_wp2_with fail
      refine (implInNo _ _ _ _ (by omega)).mono ?_
      rintro e w' ⟨rfl, rfl⟩
      go_wp2_with fail
      go_ret
      exact ⟨v, rfl, by simpa using HO.out, Gro.refl _ _⟩
  · have hv : vb n = [] := if_neg (by omega)
    have d1 : n < 0 := by omega
    rw [hv]
    clear hv
    have HO := Lib.hid hown
    clear hown
    go_enter Try.func151, Try.ntmps151
    go_wp2_with fail
    refine (implInNo _ _ _ _ (by omega)).mono ?_
    rintro e w' ⟨rfl, rfl⟩
    go_wp2_with fail
    go_ret
    exact ⟨v, rfl, by simpa using HO.out, Gro.refl _ _⟩
end Go.Proofs.Ytpfjjfbheliinaa
