
/- EqualInboxes of both sides. -/
import Derived.Test.YtkmofhpipcodbaaInbx
namespace Go.Proofs.Ytkmofhpipcodbaa
open Go.ChangeShapes Go.WideShapes Go.ChangeAt Go.RowKit
set_option linter.unusedVariables false
set_option maxRecDepth 100000 in
set_option maxHeartbeats 4000000 in
theorem bytesEqual (a a' : Option Addr) (n n' c c' B B' : Nat) (xs ys : List Int) (w : World) (h : Has .u8 w B a n xs) (h' : Has .u8 w B' a' n' ys) (hx : ∀ z ∈ xs, (Lit.int .u8 z).wf = true) (hy : ∀ z ∈ ys, (Lit.int .u8 z).wf = true) :
    Calls Try.prog 138 #[.slice a n c, .slice a' n' c'] w fun e w' => e = .returned (.bool (eqB xs ys)) ∧ Mk0 w w' := by
  have h1 := conv_str a n c B xs w h
  have h2 := conv_str a' n' c' B' ys w h'
  have HE := Lib.hid (str_eq hx hy)
  clear hx hy
  go_enter Try.func138, Try.ntmps138
  go_wp2
  go_ret
  exact ⟨ret_b HE.out, Mk.refl _ _ _⟩

set_option maxRecDepth 100000 in
set_option maxHeartbeats 4000000 in
theorem eqMsg (a a' : Option Addr) (n n' c c' B B' : Nat) (xs ys : List Int) (w : World) (h : HasByte w B a n xs) (h' : HasByte w B' a' n' ys) (hB : B ≤ w.heap.size) (hB' : B' ≤ w.heap.size) (hx : ∀ z ∈ xs, (Lit.int .u8 z).wf = true) (hy : ∀ z ∈ ys, (Lit.int .u8 z).wf = true) :
    Calls Try.prog 99 #[.agg #[.slice a n c], .agg #[.slice a' n' c']] w fun e w' => e = .returned (.bool (eqB xs ys)) ∧ Mk0 w w' := by
  have M0 := (Mk.alloc w (Obj.cells #[Value.slice a n c] 138)).new (Obj.cells #[Value.slice a' n' c'] 138)
  go_enter Try.func99, Try.ntmps99
  go_wp2_with fail
  refine (bytesEqual a a' n n' c c' B B' xs ys _ (hasR_int.1 (h.mk M0 hB (.inr (Nat.le_refl _)))) (hasR_int.1 (h'.mk M0 hB' (.inr (Nat.le_refl _)))) hx hy).mono ?_
  rintro e w2 ⟨rfl, m2⟩
  go_wp2_with fail
  go_ret
  exact ⟨rfl, M0.trans m2⟩

set_option maxRecDepth 100000 in
set_option maxHeartbeats 4000000 in
theorem efMsgs (a a' : Option Addr) (n n' c c' B B' : Nat) (zs zs' : List TMessage) (w : World) (h : HasMessage w B a n zs) (h' : HasMessage w B' a' n' zs') (hB : B ≤ w.heap.size) (hB' : B' ≤ w.heap.size) (hn : szMessage zs n ≤ 1048576) (hn' : szMessage zs' n' ≤ 1048576) (hf : ∀ x ∈ zs, TMessage.fits x) (hf' : ∀ x ∈ zs', TMessage.fits x) :
    Calls Try.prog 98 #[.slice a n c, .slice a' n' c', .func (Fn.func 99) #[] #[]] w fun e w' => e = .returned (.bool (eqListB eqM zs zs' n n')) ∧ Mk0 w w' := by
  have hn0 : n ≤ 1048576 := Nat.le_trans (szMessage_n zs n) hn
  have hn0' : n' ≤ 1048576 := Nat.le_trans (szMessage_n zs' n') hn'
  by_cases hz : n = n'
  · subst hz
    have HR := Lib.hid (show eqListB eqM zs zs' n n = eqUpTo eqM zs zs' n from if_pos rfl)
    go_enter Try.func98, Try.ntmps98
    go_wp2_with fail
    go_loopw [6, 17] (fun r i wr => r = .bool false ∧ ∃ k : Nat, k ≤ n ∧ i = .int .i64 k ∧ Hid (eqUpTo eqM zs zs' k = true) ∧ Mk0 w wr) (fun _ i _ => n - (intOf i).toNat)
    case atStart => exact ⟨rfl, 0, Nat.zero_le _, rfl, rfl, Mk.refl _ _ _⟩
    case round =>
      obtain ⟨rfl, k, hk, rfl, hS, hM⟩ := hrel
      by_cases hlt : k < n
      · obtain ⟨b, off, x, rfl, hb, hx, ah, nh, ch, d0, r0, m0, t0, z0⟩ := HasMessage.at _ _ _ _ _ _ (h.mk hM hB (.inr (Nat.le_refl _))) hlt
        obtain ⟨b', off', y, rfl, hb', hy, ah', nh', ch', s0, r0', m0', t0', z0'⟩ := HasMessage.at _ _ _ _ _ _ (h'.mk hM hB' (.inr (Nat.le_refl _))) hlt
        have fx : ∀ z ∈ x.data, (Lit.int .u8 z).wf = true := by rw [hx.out]; exact fitM hf (by rw [h.1]; exact hlt)
        have fy : ∀ z ∈ y.data, (Lit.int .u8 z).wf = true := by rw [hy.out]; exact fitM hf' (by rw [h'.1]; exact hlt)
        have hB1 := Nat.le_trans hB hM.size
        have hB1' := Nat.le_trans hB' hM.size
        have hn1 : nh ≤ 1048576 := by have HS := szMessage_at zs hlt; unfold seMessage at HS; rw [← hx.out, r0.1] at HS; omega
        have hn1' : nh' ≤ 1048576 := by have HS := szMessage_at zs' hlt; unfold seMessage at HS; rw [← hy.out, r0'.1] at HS; omega
        have hbr := World.block_lt_of_cell? _ _ d0
        have hbr' := World.block_lt_of_cell? _ _ s0
        simp only at hbr hbr'
        have HV := Lib.hid (show eqB x.data y.data = eqM (zs.getD k default) (zs'.getD k default) by rw [← hx.out, ← hy.out]; rfl)
        cases he : eqM (zs.getD k default) (zs'.getD k default)
        · have HE := Lib.hid (show eqListB eqM zs zs' n n = false by rw [HR.out]; exact eqUpTo_stop he n hlt)
          replace HV := Lib.hid (HV.out.trans he)
          clear he
          go_wp2_with fail
          have MB := (Mk.alloc wr (Obj.cells #[Value.slice ah nh ch] 138)).new (Obj.cells #[Value.slice ah' nh' ch'] 138)
          refine (eqMsg ah ah' nh nh' ch ch' B B' x.data y.data _ (r0.mk MB hB1 (.inr (Nat.le_refl _))) (r0'.mk MB hB1' (.inr (Nat.le_refl _))) (Nat.le_trans hB1 MB.size) (Nat.le_trans hB1' MB.size) fx fy).mono ?_
          rintro e w2 ⟨hv, m2⟩
          rw [HV.out] at hv
          subst hv
          clear d0 s0
          go_wp2_with fail
          go_ret
          exact ⟨retB HE.out.symm, hM.trans (MB.trans m2)⟩
        · have HE := Lib.hid (eqUpTo_go hS.out he)
          replace HV := Lib.hid (HV.out.trans he)
          clear he
          go_wp2_with fail
          have MB := (Mk.alloc wr (Obj.cells #[Value.slice ah nh ch] 138)).new (Obj.cells #[Value.slice ah' nh' ch'] 138)
          refine (eqMsg ah ah' nh nh' ch ch' B B' x.data y.data _ (r0.mk MB hB1 (.inr (Nat.le_refl _))) (r0'.mk MB hB1' (.inr (Nat.le_refl _))) (Nat.le_trans hB1 MB.size) (Nat.le_trans hB1' MB.size) fx fy).mono ?_
          rintro e w2 ⟨hv, m2⟩
          rw [HV.out] at hv
          subst hv
          clear d0 s0
          go_wp2_with fail
          go_roundw
          case rel => exact ⟨rfl, k + 1, by omega, by go_num, HE.out, hM.trans (MB.trans m2)⟩
          case measure => simp [intOf]; omega
      · obtain rfl : k = n := by omega
        go_wp2_with fail
        go_ret
        exact ⟨retB (by rw [HR.out, hS.out]), hM⟩
  · have HR := Lib.hid (show eqListB eqM zs zs' n n' = false from if_neg hz)
    have hz' : (((n : Int)) != ((n' : Int))) = true := by simp; omega
    go_enter Try.func98, Try.ntmps98
    go_wp2_with fail
    go_ret
    exact ⟨retB HR.out.symm, Mk.refl _ _ _⟩

end Go.Proofs.Ytkmofhpipcodbaa
