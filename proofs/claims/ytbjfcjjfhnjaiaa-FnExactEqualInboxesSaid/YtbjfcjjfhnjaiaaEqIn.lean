
/- EqualInboxes of both sides. -/
import Derived.Test.YtbjfcjjfhnjaiaaInbx
namespace Go.Proofs.Ytbjfcjjfhnjaiaa
open Go.ChangeShapes Go.WideShapes Go.ChangeAt Go.RowKit
set_option linter.unusedVariables false
set_option maxRecDepth 100000 in
set_option maxHeartbeats 4000000 in
theorem bytesEqual (a a' : Option Addr) (n n' c c' B B' : Nat) (xs ys : List Int) (w : World) (h : Has .u8 w B a n xs) (h' : Has .u8 w B' a' n' ys) (hx : ∀ z ∈ xs, (Lit.int .u8 z).wf = true) (hy : ∀ z ∈ ys, (Lit.int .u8 z).wf = true) :
    Calls Try.prog 108 #[.slice a n c, .slice a' n' c'] w fun e w' => e = .returned (.bool (eqB xs ys)) ∧ Mk0 w w' := by
  have h1 := conv_str a n c B xs w h
  have h2 := conv_str a' n' c' B' ys w h'
  have HE := Lib.hid (str_eq hx hy)
  clear hx hy
  go_enter Try.func108, Try.ntmps108
  go_wp2
  go_ret
  exact ⟨ret_b HE.out, Mk.refl _ _ _⟩

set_option maxRecDepth 100000 in
set_option maxHeartbeats 4000000 in
theorem eqMsg (a a' : Option Addr) (n n' c c' B B' : Nat) (xs ys : List Int) (w : World) (h : HasByte w B a n xs) (h' : HasByte w B' a' n' ys) (hB : B ≤ w.heap.size) (hB' : B' ≤ w.heap.size) (hx : ∀ z ∈ xs, (Lit.int .u8 z).wf = true) (hy : ∀ z ∈ ys, (Lit.int .u8 z).wf = true) :
    Calls Try.prog 86 #[.agg #[.slice a n c], .agg #[.slice a' n' c']] w fun e w' => e = .returned (.bool (eqB xs ys)) ∧ Mk0 w w' := by
  have M0 := (Mk.alloc w (Obj.cells #[Value.slice a n c] 109)).new (Obj.cells #[Value.slice a' n' c'] 109)
  go_enter Try.func86, Try.ntmps86
  go_wp2_with fail
  refine (bytesEqual a a' n n' c c' B B' xs ys _ (hasR_int.1 (h.mk M0 hB (.inr (Nat.le_refl _)))) (hasR_int.1 (h'.mk M0 hB' (.inr (Nat.le_refl _)))) hx hy).mono ?_
  rintro e w2 ⟨rfl, m2⟩
  go_wp2_with fail
  go_ret
  exact ⟨rfl, M0.trans m2⟩

set_option maxRecDepth 100000 in
set_option maxHeartbeats 4000000 in
theorem efMsgs (a a' : Option Addr) (n n' c c' B B' : Nat) (zs zs' : List TMessage) (w : World) (h : HasMessage w B a n zs) (h' : HasMessage w B' a' n' zs') (hB : B ≤ w.heap.size) (hB' : B' ≤ w.heap.size) (hn : szMessage zs n ≤ 1048576) (hn' : szMessage zs' n' ≤ 1048576) (hf : ∀ x ∈ zs, TMessage.fits x) (hf' : ∀ x ∈ zs', TMessage.fits x) :
    Calls Try.prog 85 #[.slice a n c, .slice a' n' c', .func (Fn.func 86) #[] #[]] w fun e w' => e = .returned (.bool (eqListB eqM zs zs' n n')) ∧ Mk0 w w' := by
  have hn0 : n ≤ 1048576 := Nat.le_trans (szMessage_n zs n) hn
  have hn0' : n' ≤ 1048576 := Nat.le_trans (szMessage_n zs' n') hn'
  by_cases hz : n = n'
  · subst hz
    have HR := Lib.hid (show eqListB eqM zs zs' n n = eqUpTo eqM zs zs' n from if_pos rfl)
    go_enter Try.func85, Try.ntmps85
    go_wp2_with fail
    go_loopw [6, 17] (fun r i wr => r = .bool false ∧ ∃ k : Nat, k ≤ n ∧ i = .int .i64 k ∧ Hid (eqUpTo eqM zs zs' k = true) ∧ Mk0 w wr) (fun _ i _ => n - (intOf i).toNat)
    case atStart => exact ⟨rfl, 0, Nat.zero_le _, rfl, rfl, Mk.refl _ _ _⟩
    case round =>
      obtain ⟨rfl, k, hk, rfl, hS, hM⟩ := hrel
      by_cases hlt : k < n
      · obtain ⟨b, off, x, rfl, hb, hx, ah, nh, ch, d0, r0, m0, t0, z0⟩ := HasMessage.at _ _ _ _ _ _ (h.mk hM hB (.inr (Nat.le_refl _))) hlt
        obtain ⟨b', off', y, rfl, hb', hy, ah', nh', ch', s0, r0', m0', t0', z0'⟩ := HasMessage.at _ _ _ _ _ _ (h'.mk hM hB' (.inr (Nat.le_refl _))) hlt
        have fx : ∀ z ∈ x.data, (Lit.int .u8 z).wf = true := by rw [hx.out]; exact fitM hf (by rw [h.1]; exact hlt)
        have fy : ∀ z ∈ y.data, (Lit.int .u8 z).wf = true := by rw [hy.out]; exact fitM hf' (by rw [h'.1]; exact hlt)
        have hB1 := Nat.le_trans hB hM.size
        have hB1' := Nat.le_trans hB' hM.size
        have hn1 : nh ≤ 1048576 := by have HS := szMessage_at zs hlt; unfold seMessage at HS; rw [← hx.out, r0.1] at HS; omega
        have hn1' : nh' ≤ 1048576 := by have HS := szMessage_at zs' hlt; unfold seMessage at HS; rw [← hy.out, r0'.1] at HS; omega
        have hbr := World.block_lt_of_cell? _ _ d0
        have hbr' := World.block_lt_of_cell? _ _ s0
        simp only at hbr hbr'
        have HV := Lib.hid (show eqB x.data y.data = eqM (zs.getD k default) (zs'.getD k default) by rw [← hx.out, ← hy.out]; rfl)
        cases he : eqM (zs.getD k default) (zs'.getD k default)
        · have HE := Lib.hid (show eqListB eqM zs zs' n n = false by rw [HR.out]; exact eqUpTo_stop he n hlt)
          replace HV := Lib.hid (HV.out.trans he)
          clear he
          go_wp2_with fail
          have MB := (Mk.alloc wr (Obj.cells #[Value.slice ah nh ch] 109)).new (Obj.cells #[Value.slice ah' nh' ch'] 109)
          refine (eqMsg ah ah' nh nh' ch ch' B B' x.data y.data _ (r0.mk MB hB1 (.inr (Nat.le_refl _))) (r0'.mk MB hB1' (.inr (Nat.le_refl _))) (Nat.le_trans hB1 MB.size) (Nat.le_trans hB1' MB.size) fx fy).mono ?_
          rintro e w2 ⟨hv, m2⟩
          rw [HV.out] at hv
          subst hv
          clear d0 s0
          go_wp2_with fail
          go_ret
          exact ⟨retB HE.out.symm, hM.trans (MB.trans m2)⟩
        · have HE := Lib.hid (eqUpTo_go hS.out he)
          replace HV := Lib.hid (HV.out.trans he)
          clear he
          go_wp2_with fail
          have MB := (Mk.alloc wr (Obj.cells #[Value.slice ah nh ch] 109)).new (Obj.cells #[Value.slice ah' nh' ch'] 109)
          refine (eqMsg ah ah' nh nh' ch ch' B B' x.data y.data _ (r0.mk MB hB1 (.inr (Nat.le_refl _))) (r0'.mk MB hB1' (.inr (Nat.le_refl _))) (Nat.le_trans hB1 MB.size) (Nat.le_trans hB1' MB.size) fx fy).mono ?_
          rintro e w2 ⟨hv, m2⟩
          rw [HV.out] at hv
          subst hv
          clear d0 s0
          go_wp2_with fail
          go_roundw
          case rel => exact ⟨rfl, k + 1, by omega, by go_num, HE.out, hM.trans (MB.trans m2)⟩
          case measure => simp [intOf]; omega
      · obtain rfl : k = n := by omega
        go_wp2_with fail
        go_ret
        exact ⟨retB (by rw [HR.out, hS.out]), hM⟩
  · have HR := Lib.hid (show eqListB eqM zs zs' n n' = false from if_neg hz)
    have hz' : (((n : Int)) != ((n' : Int))) = true := by simp; omega
    go_enter Try.func85, Try.ntmps85
    go_wp2_with fail
    go_ret
    exact ⟨retB HR.out.symm, Mk.refl _ _ _⟩

set_option maxRecDepth 100000 in
set_option maxHeartbeats 4000000 in
theorem implEqIn (x0 x1 x2 y0 y1 y2 : Int) (a a' : Option Addr) (n n' c c' B B' : Nat) (zs zs' : List TMessage) (w : World) (h : HasMessage w B a n zs) (h' : HasMessage w B' a' n' zs') (hB : B ≤ w.heap.size) (hB' : B' ≤ w.heap.size) (hn : szMessage zs n ≤ 1048576) (hn' : szMessage zs' n' ≤ 1048576) (hf : ∀ x ∈ zs, TMessage.fits x) (hf' : ∀ x ∈ zs', TMessage.fits x) :
    Calls Try.prog 50 #[.agg #[.int .i64 x0, .int .i64 x1, .int .i64 x2, .slice a n c], .agg #[.int .i64 y0, .int .i64 y1, .int .i64 y2, .slice a' n' c']] w fun e w' => e = .returned (.bool (eqInB x0 x1 x2 y0 y1 y2 (eqListB eqM zs zs' n n'))) ∧ Mk0 w w' := by
  have M0 := (Mk.alloc w (Obj.cells #[Value.int .i64 x0, Value.int .i64 x1, Value.int .i64 x2, Value.slice a n c] 64)).new (Obj.cells #[Value.int .i64 y0, Value.int .i64 y1, Value.int .i64 y2, Value.slice a' n' c'] 64)
  have u0 : ((w.alloc (Obj.cells #[Value.int .i64 x0, Value.int .i64 x1, Value.int .i64 x2, Value.slice a n c] 64)).alloc (Obj.cells #[Value.int .i64 y0, Value.int .i64 y1, Value.int .i64 y2, Value.slice a' n' c'] 64)).cell? ⟨w.heap.size, 0, none⟩ = some (.int .i64 x0) := by simp [go_sem]
  have u1 : ((w.alloc (Obj.cells #[Value.int .i64 x0, Value.int .i64 x1, Value.int .i64 x2, Value.slice a n c] 64)).alloc (Obj.cells #[Value.int .i64 y0, Value.int .i64 y1, Value.int .i64 y2, Value.slice a' n' c'] 64)).cell? ⟨w.heap.size, 1, none⟩ = some (.int .i64 x1) := by simp [go_sem]
  have u2 : ((w.alloc (Obj.cells #[Value.int .i64 x0, Value.int .i64 x1, Value.int .i64 x2, Value.slice a n c] 64)).alloc (Obj.cells #[Value.int .i64 y0, Value.int .i64 y1, Value.int .i64 y2, Value.slice a' n' c'] 64)).cell? ⟨w.heap.size, 2, none⟩ = some (.int .i64 x2) := by simp [go_sem]
  have u3 : ((w.alloc (Obj.cells #[Value.int .i64 x0, Value.int .i64 x1, Value.int .i64 x2, Value.slice a n c] 64)).alloc (Obj.cells #[Value.int .i64 y0, Value.int .i64 y1, Value.int .i64 y2, Value.slice a' n' c'] 64)).cell? ⟨w.heap.size, 3, none⟩ = some (.slice a n c) := by simp [go_sem]
  have t0 : ((w.alloc (Obj.cells #[Value.int .i64 x0, Value.int .i64 x1, Value.int .i64 x2, Value.slice a n c] 64)).alloc (Obj.cells #[Value.int .i64 y0, Value.int .i64 y1, Value.int .i64 y2, Value.slice a' n' c'] 64)).cell? ⟨w.heap.size + 1, 0, none⟩ = some (.int .i64 y0) := by simp [go_sem]
  have t1 : ((w.alloc (Obj.cells #[Value.int .i64 x0, Value.int .i64 x1, Value.int .i64 x2, Value.slice a n c] 64)).alloc (Obj.cells #[Value.int .i64 y0, Value.int .i64 y1, Value.int .i64 y2, Value.slice a' n' c'] 64)).cell? ⟨w.heap.size + 1, 1, none⟩ = some (.int .i64 y1) := by simp [go_sem]
  have t2 : ((w.alloc (Obj.cells #[Value.int .i64 x0, Value.int .i64 x1, Value.int .i64 x2, Value.slice a n c] 64)).alloc (Obj.cells #[Value.int .i64 y0, Value.int .i64 y1, Value.int .i64 y2, Value.slice a' n' c'] 64)).cell? ⟨w.heap.size + 1, 2, none⟩ = some (.int .i64 y2) := by simp [go_sem]
  have t3 : ((w.alloc (Obj.cells #[Value.int .i64 x0, Value.int .i64 x1, Value.int .i64 x2, Value.slice a n c] 64)).alloc (Obj.cells #[Value.int .i64 y0, Value.int .i64 y1, Value.int .i64 y2, Value.slice a' n' c'] 64)).cell? ⟨w.heap.size + 1, 3, none⟩ = some (.slice a' n' c') := by simp [go_sem]
  cases e0 : (x0 == y0)
  · have E0 := Lib.hid e0
    go_enter Try.func50, Try.ntmps50
    go_wp2_with fail
    go_ret
    exact ⟨retB (by unfold eqInB; simp [E0.out]), M0⟩
  · have E0 := Lib.hid e0
    cases e1 : (x1 == y1)
    · have E1 := Lib.hid e1
      go_enter Try.func50, Try.ntmps50
      go_wp2_with fail
      go_ret
      exact ⟨retB (by unfold eqInB; simp [E1.out]), M0⟩
    · have E1 := Lib.hid e1
      cases e2 : (x2 == y2)
      · have E2 := Lib.hid e2
        go_enter Try.func50, Try.ntmps50
        go_wp2_with fail
        go_ret
        exact ⟨retB (by unfold eqInB; simp [E2.out]), M0⟩
      · have E2 := Lib.hid e2
        go_enter Try.func50, Try.ntmps50
        go_wp2_with fail
        refine (efMsgs a a' n n' c c' B B' zs zs' _ (h.mk M0 hB (.inr (Nat.le_refl _))) (h'.mk M0 hB' (.inr (Nat.le_refl _))) (Nat.le_trans hB M0.size) (Nat.le_trans hB' M0.size) hn hn' hf hf').mono ?_
        rintro e w2 ⟨rfl, m2⟩
        go_wp2_with fail
        go_ret
        exact ⟨retB (by unfold eqInB; rw [E0.out, E1.out, E2.out]; rfl), M0.trans m2⟩

set_option maxRecDepth 100000 in
set_option maxHeartbeats 4000000 in
theorem specEqIn (x0 x1 x2 y0 y1 y2 : Int) (a a' : Option Addr) (n n' c c' B B' : Nat) (zs zs' : List TMessage) (w : World) (h : HasMessage w B a n zs) (h' : HasMessage w B' a' n' zs') (hB : B ≤ w.heap.size) (hB' : B' ≤ w.heap.size) (hn : szMessage zs n ≤ 1048576) (hn' : szMessage zs' n' ≤ 1048576) (hf : ∀ x ∈ zs, TMessage.fits x) (hf' : ∀ x ∈ zs', TMessage.fits x) :
    Calls Try.prog 49 #[.agg #[.int .i64 x0, .int .i64 x1, .int .i64 x2, .slice a n c], .agg #[.int .i64 y0, .int .i64 y1, .int .i64 y2, .slice a' n' c']] w fun e w' => e = .returned (.bool (eqInB x0 x1 x2 y0 y1 y2 (eqListB eqM zs zs' n n'))) ∧ Mk0 w w' := by
  have hn0 : n ≤ 1048576 := Nat.le_trans (szMessage_n zs n) hn
  have hn0' : n' ≤ 1048576 := Nat.le_trans (szMessage_n zs' n') hn'
  have M0 := (Mk.alloc w (Obj.cells #[Value.int .i64 x0, Value.int .i64 x1, Value.int .i64 x2, Value.slice a n c] 64)).new (Obj.cells #[Value.int .i64 y0, Value.int .i64 y1, Value.int .i64 y2, Value.slice a' n' c'] 64)
  have u0 : ((w.alloc (Obj.cells #[Value.int .i64 x0, Value.int .i64 x1, Value.int .i64 x2, Value.slice a n c] 64)).alloc (Obj.cells #[Value.int .i64 y0, Value.int .i64 y1, Value.int .i64 y2, Value.slice a' n' c'] 64)).cell? ⟨w.heap.size, 0, none⟩ = some (.int .i64 x0) := by simp [go_sem]
  have u1 : ((w.alloc (Obj.cells #[Value.int .i64 x0, Value.int .i64 x1, Value.int .i64 x2, Value.slice a n c] 64)).alloc (Obj.cells #[Value.int .i64 y0, Value.int .i64 y1, Value.int .i64 y2, Value.slice a' n' c'] 64)).cell? ⟨w.heap.size, 1, none⟩ = some (.int .i64 x1) := by simp [go_sem]
  have u2 : ((w.alloc (Obj.cells #[Value.int .i64 x0, Value.int .i64 x1, Value.int .i64 x2, Value.slice a n c] 64)).alloc (Obj.cells #[Value.int .i64 y0, Value.int .i64 y1, Value.int .i64 y2, Value.slice a' n' c'] 64)).cell? ⟨w.heap.size, 2, none⟩ = some (.int .i64 x2) := by simp [go_sem]
  have u3 : ((w.alloc (Obj.cells #[Value.int .i64 x0, Value.int .i64 x1, Value.int .i64 x2, Value.slice a n c] 64)).alloc (Obj.cells #[Value.int .i64 y0, Value.int .i64 y1, Value.int .i64 y2, Value.slice a' n' c'] 64)).cell? ⟨w.heap.size, 3, none⟩ = some (.slice a n c) := by simp [go_sem]
  have t0 : ((w.alloc (Obj.cells #[Value.int .i64 x0, Value.int .i64 x1, Value.int .i64 x2, Value.slice a n c] 64)).alloc (Obj.cells #[Value.int .i64 y0, Value.int .i64 y1, Value.int .i64 y2, Value.slice a' n' c'] 64)).cell? ⟨w.heap.size + 1, 0, none⟩ = some (.int .i64 y0) := by simp [go_sem]
  have t1 : ((w.alloc (Obj.cells #[Value.int .i64 x0, Value.int .i64 x1, Value.int .i64 x2, Value.slice a n c] 64)).alloc (Obj.cells #[Value.int .i64 y0, Value.int .i64 y1, Value.int .i64 y2, Value.slice a' n' c'] 64)).cell? ⟨w.heap.size + 1, 1, none⟩ = some (.int .i64 y1) := by simp [go_sem]
  have t2 : ((w.alloc (Obj.cells #[Value.int .i64 x0, Value.int .i64 x1, Value.int .i64 x2, Value.slice a n c] 64)).alloc (Obj.cells #[Value.int .i64 y0, Value.int .i64 y1, Value.int .i64 y2, Value.slice a' n' c'] 64)).cell? ⟨w.heap.size + 1, 2, none⟩ = some (.int .i64 y2) := by simp [go_sem]
  have t3 : ((w.alloc (Obj.cells #[Value.int .i64 x0, Value.int .i64 x1, Value.int .i64 x2, Value.slice a n c] 64)).alloc (Obj.cells #[Value.int .i64 y0, Value.int .i64 y1, Value.int .i64 y2, Value.slice a' n' c'] 64)).cell? ⟨w.heap.size + 1, 3, none⟩ = some (.slice a' n' c') := by simp [go_sem]
  have IH := Lib.hid (fun (w' : World) (m : Mk0 ((w.alloc (Obj.cells #[Value.int .i64 x0, Value.int .i64 x1, Value.int .i64 x2, Value.slice a n c] 64)).alloc (Obj.cells #[Value.int .i64 y0, Value.int .i64 y1, Value.int .i64 y2, Value.slice a' n' c'] 64)) w') => (And.intro (m.cellAt u0) (And.intro (m.cellAt u1) (And.intro (m.cellAt u2) (And.intro (m.cellAt u3) (And.intro (m.cellAt t0) (And.intro (m.cellAt t1) (And.intro (m.cellAt t2) (m.cellAt t3)))))))))
  cases e0 : (x0 == y0)
  · have E0 := Lib.hid e0
    have hbn : (x0 != y0) = true := by simp only [bne, e0]; rfl
    go_enter Try.func49, Try.ntmps49
    go_wp2_with fail
    go_ret
    exact ⟨retB (by unfold eqInB; simp [E0.out]), M0⟩
  · have E0 := Lib.hid e0
    have hbn0 : (x0 != y0) = false := by simp only [bne, e0]; rfl
    cases e1 : (x1 == y1)
    · have E1 := Lib.hid e1
      have hbn : (x1 != y1) = true := by simp only [bne, e1]; rfl
      go_enter Try.func49, Try.ntmps49
      go_wp2_with fail
      go_ret
      exact ⟨retB (by unfold eqInB; simp [E1.out]), M0⟩
    · have E1 := Lib.hid e1
      have hbn1 : (x1 != y1) = false := by simp only [bne, e1]; rfl
      cases e2 : (x2 == y2)
      · have E2 := Lib.hid e2
        have hbn : (x2 != y2) = true := by simp only [bne, e2]; rfl
        go_enter Try.func49, Try.ntmps49
        go_wp2_with fail
        go_ret
        exact ⟨retB (by unfold eqInB; simp [E2.out]), M0⟩
      · have E2 := Lib.hid e2
        have hbn2 : (x2 != y2) = false := by simp only [bne, e2]; rfl
        by_cases hz : n = n'
        · subst hz
          have HR := Lib.hid (show eqListB eqM zs zs' n n = eqUpTo eqM zs zs' n from if_pos rfl)
          have hnn : ((n : Int) != (n : Int)) = false := by simp
          go_enter Try.func49, Try.ntmps49
          go_wp2_with fail
          clear u0 u1 u2 u3 t0 t1 t2 t3
          go_loopw [4, 5] (fun r i wr => r = .bool false ∧ ∃ k : Nat, k ≤ n ∧ i = .int .i64 k ∧ Hid (eqUpTo eqM zs zs' k = true) ∧ Mk0 ((w.alloc (Obj.cells #[Value.int .i64 x0, Value.int .i64 x1, Value.int .i64 x2, Value.slice a n c] 64)).alloc (Obj.cells #[Value.int .i64 y0, Value.int .i64 y1, Value.int .i64 y2, Value.slice a' n c'] 64)) wr) (fun _ i _ => n - (intOf i).toNat)
          case atStart => exact ⟨rfl, 0, Nat.zero_le _, rfl, rfl, Mk.refl _ _ _⟩
          case round =>
            obtain ⟨rfl, k, hk, rfl, hS, hM⟩ := hrel
            have hMW := M0.trans hM
            obtain ⟨u0, u1, u2, u3, t0, t1, t2, t3⟩ := IH.out _ hM
            by_cases hlt : k < n
            · obtain ⟨b, off, x, rfl, hb, hx, ah, nh, ch, d0, r0, m0, tt0, zz0⟩ := HasMessage.at _ _ _ _ _ _ (h.mk hMW hB (.inr (Nat.le_refl _))) hlt
              obtain ⟨b', off', y, rfl, hb', hy, ah', nh', ch', q0, r0', m0', t0', z0'⟩ := HasMessage.at _ _ _ _ _ _ (h'.mk hMW hB' (.inr (Nat.le_refl _))) hlt
              have fx : ∀ z ∈ x.data, (Lit.int .u8 z).wf = true := by rw [hx.out]; exact fitM hf (by rw [h.1]; exact hlt)
              have fy : ∀ z ∈ y.data, (Lit.int .u8 z).wf = true := by rw [hy.out]; exact fitM hf' (by rw [h'.1]; exact hlt)
              have hB1 := Nat.le_trans hB hMW.size
              have hB1' := Nat.le_trans hB' hMW.size
              have hn1 : nh ≤ 1048576 := by have HS := szMessage_at zs hlt; unfold seMessage at HS; rw [← hx.out, r0.1] at HS; omega
              have hn1' : nh' ≤ 1048576 := by have HS := szMessage_at zs' hlt; unfold seMessage at HS; rw [← hy.out, r0'.1] at HS; omega
              have hbr := World.block_lt_of_cell? _ _ d0
              have hbr' := World.block_lt_of_cell? _ _ q0
              simp only at hbr hbr'
              have HV := Lib.hid (show eqB x.data y.data = eqM (zs.getD k default) (zs'.getD k default) by rw [← hx.out, ← hy.out]; rfl)
              have hMM : Mk0 wr wr := Mk.refl _ _ _
              have i1 : (0 : Int) ≤ (k : Int) := by omega
              have i2 : (k : Int) < (n : Int) := by omega
              cases he : eqM (zs.getD k default) (zs'.getD k default)
              · have HE := Lib.hid (show eqListB eqM zs zs' n n = false by rw [HR.out]; exact eqUpTo_stop he n hlt)
                replace HV := Lib.hid (HV.out.trans he)
                clear he
                go_wp2_with fail
                refine wp_region_wk (fun w' => Mk0 wr w' ∧ w'.cell? ⟨w.heap.size, 3, none⟩ = some (.slice (some ⟨b, off, none⟩) n c) ∧ w'.cell? ⟨w.heap.size + 1, 3, none⟩ = some (.slice (some ⟨b', off', none⟩) n c') ∧ w'.cell? ⟨b, off + k, none⟩ = some (.slice ah nh ch) ∧ w'.cell? ⟨b', off' + k, none⟩ = some (.slice ah' nh' ch')) (by kernel_rfl) (by kernel_rfl) (⟨Mk.drew1 _, u3, t3, d0, q0⟩) ?_
                change Wk _ _ _ _ 14 0 _
                first | (refine Wk.skip (m := 13) (k := 0) rfl (by rfl) ?_) | (refine Wk.step (m := 13) (k := 0) (v := _) rfl (by rfl) (fun wv hS => by obtain ⟨s0, s1, s2, s3, s4⟩ := hS; go_simp; try with_reducible rfl) ?_)
                try simp only [Act.put, List.getElem_toArray, List.getElem_cons_zero, List.setIfInBounds_toArray, List.set_cons_zero, List.set_cons_succ]
                first | (refine Wk.skip (m := 12) (k := 1) rfl (by rfl) ?_) | (refine Wk.step (m := 12) (k := 1) (v := _) rfl (by rfl) (fun wv hS => by obtain ⟨s0, s1, s2, s3, s4⟩ := hS; go_simp; try with_reducible rfl) ?_)
                try simp only [Act.put, List.getElem_toArray, List.getElem_cons_succ, List.getElem_cons_zero, List.setIfInBounds_toArray, List.set_cons_zero, List.set_cons_succ]
                first | (refine Wk.skip (m := 11) (k := 2) rfl (by rfl) ?_) | (refine Wk.step (m := 11) (k := 2) (v := _) rfl (by rfl) (fun wv hS => by obtain ⟨s0, s1, s2, s3, s4⟩ := hS; go_simp; try with_reducible rfl) ?_)
                try simp only [Act.put, List.getElem_toArray, List.getElem_cons_succ, List.getElem_cons_zero, List.setIfInBounds_toArray, List.set_cons_zero, List.set_cons_succ]
                first | (refine Wk.skip (m := 10) (k := 3) rfl (by rfl) ?_) | (refine Wk.step (m := 10) (k := 3) (v := _) rfl (by rfl) (fun wv hS => by obtain ⟨s0, s1, s2, s3, s4⟩ := hS; go_simp; try with_reducible rfl) ?_)
                try simp only [Act.put, List.getElem_toArray, List.getElem_cons_succ, List.getElem_cons_zero, List.setIfInBounds_toArray, List.set_cons_zero, List.set_cons_succ]
                first | (refine Wk.skip (m := 9) (k := 4) rfl (by rfl) ?_) | (refine Wk.step (m := 9) (k := 4) (v := _) rfl (by rfl) (fun wv hS => by obtain ⟨s0, s1, s2, s3, s4⟩ := hS; go_simp; try with_reducible rfl) ?_)
                try simp only [Act.put, List.getElem_toArray, List.getElem_cons_succ, List.getElem_cons_zero, List.setIfInBounds_toArray, List.set_cons_zero, List.set_cons_succ]
                first | (refine Wk.skip (m := 8) (k := 5) rfl (by rfl) ?_) | (refine Wk.step (m := 8) (k := 5) (v := _) rfl (by rfl) (fun wv hS => by obtain ⟨s0, s1, s2, s3, s4⟩ := hS; go_simp; try with_reducible rfl) ?_)
                try simp only [Act.put, List.getElem_toArray, List.getElem_cons_succ, List.getElem_cons_zero, List.setIfInBounds_toArray, List.set_cons_zero, List.set_cons_succ]
                first | (refine Wk.skip (m := 7) (k := 6) rfl (by rfl) ?_) | (refine Wk.step (m := 7) (k := 6) (v := _) rfl (by rfl) (fun wv hS => by obtain ⟨s0, s1, s2, s3, s4⟩ := hS; go_simp; try with_reducible rfl) ?_)
                try simp only [Act.put, List.getElem_toArray, List.getElem_cons_succ, List.getElem_cons_zero, List.setIfInBounds_toArray, List.set_cons_zero, List.set_cons_succ]
                first | (refine Wk.skip (m := 6) (k := 7) rfl (by rfl) ?_) | (refine Wk.step (m := 6) (k := 7) (v := _) rfl (by rfl) (fun wv hS => by obtain ⟨s0, s1, s2, s3, s4⟩ := hS; go_simp; try with_reducible rfl) ?_)
                try simp only [Act.put, List.getElem_toArray, List.getElem_cons_succ, List.getElem_cons_zero, List.setIfInBounds_toArray, List.set_cons_zero, List.set_cons_succ]
                first | (refine Wk.skip (m := 5) (k := 8) rfl (by rfl) ?_) | (refine Wk.step (m := 5) (k := 8) (v := _) rfl (by rfl) (fun wv hS => by obtain ⟨s0, s1, s2, s3, s4⟩ := hS; go_simp; try with_reducible rfl) ?_)
                try simp only [Act.put, List.getElem_toArray, List.getElem_cons_succ, List.getElem_cons_zero, List.setIfInBounds_toArray, List.set_cons_zero, List.set_cons_succ]
                first | (refine Wk.skip (m := 4) (k := 9) rfl (by rfl) ?_) | (refine Wk.step (m := 4) (k := 9) (v := _) rfl (by rfl) (fun wv hS => by obtain ⟨s0, s1, s2, s3, s4⟩ := hS; go_simp; try with_reducible rfl) ?_)
                try simp only [Act.put, List.getElem_toArray, List.getElem_cons_succ, List.getElem_cons_zero, List.setIfInBounds_toArray, List.set_cons_zero, List.set_cons_succ]
                first | (refine Wk.skip (m := 3) (k := 10) rfl (by rfl) ?_) | (refine Wk.step (m := 3) (k := 10) (v := _) rfl (by rfl) (fun wv hS => by obtain ⟨s0, s1, s2, s3, s4⟩ := hS; go_simp; try with_reducible rfl) ?_)
                try simp only [Act.put, List.getElem_toArray, List.getElem_cons_succ, List.getElem_cons_zero, List.setIfInBounds_toArray, List.set_cons_zero, List.set_cons_succ]
                first | (refine Wk.skip (m := 2) (k := 11) rfl (by rfl) ?_) | (refine Wk.step (m := 2) (k := 11) (v := _) rfl (by rfl) (fun wv hS => by obtain ⟨s0, s1, s2, s3, s4⟩ := hS; go_simp; try with_reducible rfl) ?_)
                try simp only [Act.put, List.getElem_toArray, List.getElem_cons_succ, List.getElem_cons_zero, List.setIfInBounds_toArray, List.set_cons_zero, List.set_cons_succ]
                refine Wk.call (m := 1) (k := 12) (v := .bool false) _ _ rfl (by rfl) (fun wv hS => by obtain ⟨s0, s1, s2, s3, s4⟩ := hS; go_simp; first | done | exact ⟨rfl, rfl⟩ | with_reducible rfl) (fun wv hS => ?_) ?_; · obtain ⟨s0, s1, s2, s3, s4⟩ := hS; refine (specEqualBytes ah ah' nh nh' ch ch' B B' x.data y.data wv (hasR_int.1 (r0.mk (hMM.trans s0) hB1 (.inr (Nat.le_refl _)))) (hasR_int.1 (r0'.mk (hMM.trans s0) hB1' (.inr (Nat.le_refl _)))) fx fy (by omega) (by omega)).mono ?_; rintro e w' ⟨he, rfl⟩; exact ⟨by rw [he, HV.out], s0, s1, s2, s3, s4⟩
                try simp only [Act.put, List.getElem_toArray, List.getElem_cons_succ, List.getElem_cons_zero, List.setIfInBounds_toArray, List.set_cons_zero, List.set_cons_succ]
                first | (refine Wk.skip (m := 0) (k := 13) rfl (by rfl) ?_) | (refine Wk.step (m := 0) (k := 13) (v := _) rfl (by rfl) (fun wv hS => by obtain ⟨s0, s1, s2, s3, s4⟩ := hS; go_simp; try with_reducible rfl) ?_)
                try simp only [Act.put, List.getElem_toArray, List.getElem_cons_succ, List.getElem_cons_zero, List.setIfInBounds_toArray, List.set_cons_zero, List.set_cons_succ]
                refine Wk.done fun wE hE => ?_
                clear u3 t3 d0 q0
                obtain ⟨mE, u3, t3, d0, q0⟩ := hE
                go_wp2_with fail
                go_ret
                exact ⟨retB (by unfold eqInB; simp [HE.out]), hMW.trans mE⟩
              · have HE := Lib.hid (eqUpTo_go hS.out he)
                replace HV := Lib.hid (HV.out.trans he)
                clear he
                go_wp2_with fail
                refine wp_region_wk (fun w' => Mk0 wr w' ∧ w'.cell? ⟨w.heap.size, 3, none⟩ = some (.slice (some ⟨b, off, none⟩) n c) ∧ w'.cell? ⟨w.heap.size + 1, 3, none⟩ = some (.slice (some ⟨b', off', none⟩) n c') ∧ w'.cell? ⟨b, off + k, none⟩ = some (.slice ah nh ch) ∧ w'.cell? ⟨b', off' + k, none⟩ = some (.slice ah' nh' ch')) (by kernel_rfl) (by kernel_rfl) (⟨Mk.drew1 _, u3, t3, d0, q0⟩) ?_
                change Wk _ _ _ _ 14 0 _
                first | (refine Wk.skip (m := 13) (k := 0) rfl (by rfl) ?_) | (refine Wk.step (m := 13) (k := 0) (v := _) rfl (by rfl) (fun wv hS => by obtain ⟨s0, s1, s2, s3, s4⟩ := hS; go_simp; try with_reducible rfl) ?_)
                try simp only [Act.put, List.getElem_toArray, List.getElem_cons_zero, List.setIfInBounds_toArray, List.set_cons_zero, List.set_cons_succ]
                first | (refine Wk.skip (m := 12) (k := 1) rfl (by rfl) ?_) | (refine Wk.step (m := 12) (k := 1) (v := _) rfl (by rfl) (fun wv hS => by obtain ⟨s0, s1, s2, s3, s4⟩ := hS; go_simp; try with_reducible rfl) ?_)
                try simp only [Act.put, List.getElem_toArray, List.getElem_cons_succ, List.getElem_cons_zero, List.setIfInBounds_toArray, List.set_cons_zero, List.set_cons_succ]
                first | (refine Wk.skip (m := 11) (k := 2) rfl (by rfl) ?_) | (refine Wk.step (m := 11) (k := 2) (v := _) rfl (by rfl) (fun wv hS => by obtain ⟨s0, s1, s2, s3, s4⟩ := hS; go_simp; try with_reducible rfl) ?_)
                try simp only [Act.put, List.getElem_toArray, List.getElem_cons_succ, List.getElem_cons_zero, List.setIfInBounds_toArray, List.set_cons_zero, List.set_cons_succ]
                first | (refine Wk.skip (m := 10) (k := 3) rfl (by rfl) ?_) | (refine Wk.step (m := 10) (k := 3) (v := _) rfl (by rfl) (fun wv hS => by obtain ⟨s0, s1, s2, s3, s4⟩ := hS; go_simp; try with_reducible rfl) ?_)
                try simp only [Act.put, List.getElem_toArray, List.getElem_cons_succ, List.getElem_cons_zero, List.setIfInBounds_toArray, List.set_cons_zero, List.set_cons_succ]
                first | (refine Wk.skip (m := 9) (k := 4) rfl (by rfl) ?_) | (refine Wk.step (m := 9) (k := 4) (v := _) rfl (by rfl) (fun wv hS => by obtain ⟨s0, s1, s2, s3, s4⟩ := hS; go_simp; try with_reducible rfl) ?_)
                try simp only [Act.put, List.getElem_toArray, List.getElem_cons_succ, List.getElem_cons_zero, List.setIfInBounds_toArray, List.set_cons_zero, List.set_cons_succ]
                first | (refine Wk.skip (m := 8) (k := 5) rfl (by rfl) ?_) | (refine Wk.step (m := 8) (k := 5) (v := _) rfl (by rfl) (fun wv hS => by obtain ⟨s0, s1, s2, s3, s4⟩ := hS; go_simp; try with_reducible rfl) ?_)
                try simp only [Act.put, List.getElem_toArray, List.getElem_cons_succ, List.getElem_cons_zero, List.setIfInBounds_toArray, List.set_cons_zero, List.set_cons_succ]
                first | (refine Wk.skip (m := 7) (k := 6) rfl (by rfl) ?_) | (refine Wk.step (m := 7) (k := 6) (v := _) rfl (by rfl) (fun wv hS => by obtain ⟨s0, s1, s2, s3, s4⟩ := hS; go_simp; try with_reducible rfl) ?_)
                try simp only [Act.put, List.getElem_toArray, List.getElem_cons_succ, List.getElem_cons_zero, List.setIfInBounds_toArray, List.set_cons_zero, List.set_cons_succ]
                first | (refine Wk.skip (m := 6) (k := 7) rfl (by rfl) ?_) | (refine Wk.step (m := 6) (k := 7) (v := _) rfl (by rfl) (fun wv hS => by obtain ⟨s0, s1, s2, s3, s4⟩ := hS; go_simp; try with_reducible rfl) ?_)
                try simp only [Act.put, List.getElem_toArray, List.getElem_cons_succ, List.getElem_cons_zero, List.setIfInBounds_toArray, List.set_cons_zero, List.set_cons_succ]
                first | (refine Wk.skip (m := 5) (k := 8) rfl (by rfl) ?_) | (refine Wk.step (m := 5) (k := 8) (v := _) rfl (by rfl) (fun wv hS => by obtain ⟨s0, s1, s2, s3, s4⟩ := hS; go_simp; try with_reducible rfl) ?_)
                try simp only [Act.put, List.getElem_toArray, List.getElem_cons_succ, List.getElem_cons_zero, List.setIfInBounds_toArray, List.set_cons_zero, List.set_cons_succ]
                first | (refine Wk.skip (m := 4) (k := 9) rfl (by rfl) ?_) | (refine Wk.step (m := 4) (k := 9) (v := _) rfl (by rfl) (fun wv hS => by obtain ⟨s0, s1, s2, s3, s4⟩ := hS; go_simp; try with_reducible rfl) ?_)
                try simp only [Act.put, List.getElem_toArray, List.getElem_cons_succ, List.getElem_cons_zero, List.setIfInBounds_toArray, List.set_cons_zero, List.set_cons_succ]
                first | (refine Wk.skip (m := 3) (k := 10) rfl (by rfl) ?_) | (refine Wk.step (m := 3) (k := 10) (v := _) rfl (by rfl) (fun wv hS => by obtain ⟨s0, s1, s2, s3, s4⟩ := hS; go_simp; try with_reducible rfl) ?_)
                try simp only [Act.put, List.getElem_toArray, List.getElem_cons_succ, List.getElem_cons_zero, List.setIfInBounds_toArray, List.set_cons_zero, List.set_cons_succ]
                first | (refine Wk.skip (m := 2) (k := 11) rfl (by rfl) ?_) | (refine Wk.step (m := 2) (k := 11) (v := _) rfl (by rfl) (fun wv hS => by obtain ⟨s0, s1, s2, s3, s4⟩ := hS; go_simp; try with_reducible rfl) ?_)
                try simp only [Act.put, List.getElem_toArray, List.getElem_cons_succ, List.getElem_cons_zero, List.setIfInBounds_toArray, List.set_cons_zero, List.set_cons_succ]
                refine Wk.call (m := 1) (k := 12) (v := .bool true) _ _ rfl (by rfl) (fun wv hS => by obtain ⟨s0, s1, s2, s3, s4⟩ := hS; go_simp; first | done | exact ⟨rfl, rfl⟩ | with_reducible rfl) (fun wv hS => ?_) ?_; · obtain ⟨s0, s1, s2, s3, s4⟩ := hS; refine (specEqualBytes ah ah' nh nh' ch ch' B B' x.data y.data wv (hasR_int.1 (r0.mk (hMM.trans s0) hB1 (.inr (Nat.le_refl _)))) (hasR_int.1 (r0'.mk (hMM.trans s0) hB1' (.inr (Nat.le_refl _)))) fx fy (by omega) (by omega)).mono ?_; rintro e w' ⟨he, rfl⟩; exact ⟨by rw [he, HV.out], s0, s1, s2, s3, s4⟩
                try simp only [Act.put, List.getElem_toArray, List.getElem_cons_succ, List.getElem_cons_zero, List.setIfInBounds_toArray, List.set_cons_zero, List.set_cons_succ]
                first | (refine Wk.skip (m := 0) (k := 13) rfl (by rfl) ?_) | (refine Wk.step (m := 0) (k := 13) (v := _) rfl (by rfl) (fun wv hS => by obtain ⟨s0, s1, s2, s3, s4⟩ := hS; go_simp; try with_reducible rfl) ?_)
                try simp only [Act.put, List.getElem_toArray, List.getElem_cons_succ, List.getElem_cons_zero, List.setIfInBounds_toArray, List.set_cons_zero, List.set_cons_succ]
                refine Wk.done fun wE hE => ?_
                clear u3 t3 d0 q0
                obtain ⟨mE, u3, t3, d0, q0⟩ := hE
                go_wp2_with fail
                go_roundw
                case rel => exact ⟨rfl, k + 1, by omega, by go_num, HE.out, hM.trans mE⟩
                case measure => simp [intOf]; omega
            · obtain rfl : k = n := by omega
              go_wp2_with fail
              go_ret
              exact ⟨retB (by unfold eqInB; rw [HR.out, hS.out, E0.out, E1.out, E2.out]; rfl), hMW⟩
        · have HR := Lib.hid (show eqListB eqM zs zs' n n' = false from if_neg hz)
          have hz' : (((n : Int)) != ((n' : Int))) = true := by simp; omega
          go_enter Try.func49, Try.ntmps49
          go_wp2_with fail
          go_ret
          exact ⟨retB (by unfold eqInB; simp [HR.out]), M0⟩

end Go.Proofs.Ytbjfcjjfhnjaiaa
