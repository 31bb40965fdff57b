
/- Equality of inboxes, with a wider bound. -/
import Derived.Test.YtdlafigjkefllaaCInbox
import Derived.Test.YtdlafigjkefllaaNMessage
import Derived.Test.YtdlafigjkefllaaKPath
import Derived.Test.YtdlafigjkefllaaRow
import Derived.Test.YtdlafigjkefllaaHdM
namespace Go.Proofs.Ytdlafigjkefllaa
open Go.ChangeShapes Go.WideShapes Go.ChangeAt Go.RowKit
set_option linter.unusedVariables false
set_option maxRecDepth 100000 in
set_option maxHeartbeats 4000000 in
theorem eqMessageCB (a0 a0' : Option Addr) (n0 c0 c0' : Nat) (z0 : List TByte) (B B' : Nat) (w : World) (h0 : HasByte w B a0 n0 z0) (h0' : HasByte w B' a0' n0 z0) (hB : B ≤ w.heap.size) (hB' : B' ≤ w.heap.size) (hn0 : n0 ≤ 1048577) :
    Calls Try.prog 94 #[.agg #[.slice a0 n0 c0], .agg #[.slice a0' n0 c0']] w fun e w' => e = .returned (.bool true) ∧ Mk0 w w' := by
  have M := (Mk.alloc w (Obj.cells #[Value.slice a0 n0 c0] 103)).new (Obj.cells #[Value.slice a0' n0 c0'] 103)
  have k0 : ((w.alloc (Obj.cells #[Value.slice a0 n0 c0] 103)).alloc (Obj.cells #[Value.slice a0' n0 c0'] 103)).cell? ⟨w.heap.size, 0, none⟩ = some (.slice a0 n0 c0) := by simp [go_sem]
  have s0 : ((w.alloc (Obj.cells #[Value.slice a0 n0 c0] 103)).alloc (Obj.cells #[Value.slice a0' n0 c0'] 103)).cell? ⟨w.heap.size + 1, 0, none⟩ = some (.slice a0' n0 c0') := by simp [go_sem]
  go_enter Try.func94, Try.ntmps94
  go_wp2_with fail
  generalize ((w.alloc (Obj.cells #[Value.slice a0 n0 c0] 103)).alloc (Obj.cells #[Value.slice a0' n0 c0'] 103)) = u0 at *
  refine (eqByteS a0 a0' n0 c0 c0' B B' z0 _ (h0.mk M hB (.inr (Nat.le_refl _))) (h0'.mk M hB' (.inr (Nat.le_refl _))) (Nat.le_trans hB M.size) (Nat.le_trans hB' M.size) (by omega)).mono ?_
  rintro e w1 ⟨rfl, m1⟩
  clear k0 s0
  replace M := M.trans m1
  go_wp2_with fail
  go_ret
  exact ⟨rfl, M⟩

set_option maxRecDepth 100000 in
set_option maxHeartbeats 4000000 in
theorem eqMessageSB (a a' : Option Addr) (n c c' B B' : Nat) (zs : List TMessage) (w : World) (h : HasMessage w B a n zs) (h' : HasMessage w B' a' n zs) (hB : B ≤ w.heap.size) (hB' : B' ≤ w.heap.size) (hn : szMessage zs n ≤ 1048577) :
    Calls Try.prog 65 #[.slice a n c, .slice a' n c'] w fun e w' => e = .returned (.bool true) ∧ Mk0 w w' := by
  have hn0 : n ≤ 1048577 := Nat.le_trans (szMessage_n zs n) hn
  go_enter Try.func65, Try.ntmps65
  go_wp2_with fail
  go_loopw [4, 5] (fun r i wr => r = .bool false ∧ ∃ k : Nat, k ≤ n ∧ i = .int .i64 k ∧ Mk0 w wr) (fun _ i _ => n - (intOf i).toNat)
  case atStart => exact ⟨rfl, 0, Nat.zero_le _, rfl, Mk.refl _ _ _⟩
  case round =>
    obtain ⟨rfl, k, hk, rfl, hM⟩ := hrel
    by_cases hlt : k < n
    · obtain ⟨b, off, x, rfl, hb, hx, a0, n0, c0, d0, r0, m0, t0, z0⟩ := HasMessage.at _ _ _ _ _ _ (h.mk hM hB (.inr (Nat.le_refl _))) hlt
      obtain ⟨b', off', x', rfl, hb', hx', a0', n0', c0', s0, r0', m0', t0', z0'⟩ := HasMessage.at _ _ _ _ _ _ (h'.mk hM hB' (.inr (Nat.le_refl _))) hlt
      obtain rfl : x = x' := hx.out.trans hx'.out.symm
      obtain rfl : n0 = n0' := r0.1.symm.trans r0'.1
      have hs0 : n0 ≤ 1048577 := (by have HS := szMessage_at zs hlt; rw [← hx.out] at HS; unfold seMessage at HS; have := r0.1; omega)
      have hB1 := Nat.le_trans hB hM.size
      have hB1' := Nat.le_trans hB' hM.size
      go_wp2_with fail
      go_region_with (go_at_call 94; refine (eqMessageCB a0 a0' n0 c0 c0' x.data B B' _ (r0.mk (Mk.drew1 _) hB1 (.inr (Nat.le_refl _))) (r0'.mk (Mk.drew1 _) hB1' (.inr (Nat.le_refl _))) hB1 hB1' hs0).mono ?_; rintro e w2 ⟨rfl, m2⟩)
      all_goals (
        have m3 : Mk0 wr w2 := ⟨m2.os, m2.tape, m2.output, m2.size, m2.block⟩
        clear m2 d0 s0
        refine ‹∀ (a : Act) (w : World), _ → _› _ _ ?_
        go_wp2_with fail
        go_roundw
        case rel => exact ⟨rfl, k + 1, by omega, by go_num, hM.trans m3⟩
        case measure => simp [intOf]; omega)
    · obtain rfl : k = n := by omega
      go_wp2_with fail
      go_ret
      exact ⟨rfl, hM⟩

set_option maxRecDepth 100000 in
set_option maxHeartbeats 4000000 in
theorem eqInboxCB (x0 : Int) (x1 : Int) (x2 : Int) (a3 a3' : Option Addr) (n3 c3 c3' : Nat) (z3 : List TMessage) (B B' : Nat) (w : World) (h3 : HasMessage w B a3 n3 z3) (h3' : HasMessage w B' a3' n3 z3) (hB : B ≤ w.heap.size) (hB' : B' ≤ w.heap.size) (hn3 : szMessage z3 n3 ≤ 1048577) :
    Calls Try.prog 31 #[.agg #[.int .i64 x0, .int .i64 x1, .int .i64 x2, .slice a3 n3 c3], .agg #[.int .i64 x0, .int .i64 x1, .int .i64 x2, .slice a3' n3 c3']] w fun e w' => e = .returned (.bool true) ∧ Mk0 w w' := by
  have M := (Mk.alloc w (Obj.cells #[Value.int .i64 x0, Value.int .i64 x1, Value.int .i64 x2, Value.slice a3 n3 c3] 59)).new (Obj.cells #[Value.int .i64 x0, Value.int .i64 x1, Value.int .i64 x2, Value.slice a3' n3 c3'] 59)
  have k3 : ((w.alloc (Obj.cells #[Value.int .i64 x0, Value.int .i64 x1, Value.int .i64 x2, Value.slice a3 n3 c3] 59)).alloc (Obj.cells #[Value.int .i64 x0, Value.int .i64 x1, Value.int .i64 x2, Value.slice a3' n3 c3'] 59)).cell? ⟨w.heap.size, 3, none⟩ = some (.slice a3 n3 c3) := by simp [go_sem]
  have s3 : ((w.alloc (Obj.cells #[Value.int .i64 x0, Value.int .i64 x1, Value.int .i64 x2, Value.slice a3 n3 c3] 59)).alloc (Obj.cells #[Value.int .i64 x0, Value.int .i64 x1, Value.int .i64 x2, Value.slice a3' n3 c3'] 59)).cell? ⟨w.heap.size + 1, 3, none⟩ = some (.slice a3' n3 c3') := by simp [go_sem]
  go_enter Try.func31, Try.ntmps31
  go_wp2_with fail
  generalize ((w.alloc (Obj.cells #[Value.int .i64 x0, Value.int .i64 x1, Value.int .i64 x2, Value.slice a3 n3 c3] 59)).alloc (Obj.cells #[Value.int .i64 x0, Value.int .i64 x1, Value.int .i64 x2, Value.slice a3' n3 c3'] 59)) = u0 at *
  refine (eqMessageSB a3 a3' n3 c3 c3' B B' z3 _ (h3.mk M hB (.inr (Nat.le_refl _))) (h3'.mk M hB' (.inr (Nat.le_refl _))) (Nat.le_trans hB M.size) (Nat.le_trans hB' M.size) (by omega)).mono ?_
  rintro e w1 ⟨rfl, m1⟩
  clear k3 s3
  replace M := M.trans m1
  go_wp2_with fail
  go_ret
  exact ⟨rfl, M⟩

end Go.Proofs.Ytdlafigjkefllaa
namespace Go.Proofs.Ytdlafigjkefllaa
open Go.ChangeShapes Go.WideShapes Go.ChangeAt Go.RowKit
set_option linter.unusedVariables false
set_option maxRecDepth 100000 in
set_option maxHeartbeats 4000000 in
theorem markByteP (b off n c lo hi : Nat) (k0 : Int) (w : World) (hF : Fill w b off n 0 (fun _ => undef)) (hlb : 0 < n → lo ≤ b ∧ b < hi) (hn : n ≤ 1048576) (h0 : 0 ≤ k0) (h1 : k0 ≤ 1099511627776) :
    Calls Try.prog 70 #[.slice (some ⟨b, off, none⟩) n c, .int .i64 k0] w fun e w' => e = .returned (.int .i64 (k0 + n)) ∧ Shp w w' ∧ Mk lo hi w w' := by
  go_enter Try.func70, Try.ntmps70
  go_wp2
  go_loopw [1, 5] (fun q i wr => ∃ k : Nat, k ≤ n ∧ i = .int .i64 k ∧ q = .int .i64 (k0 + k) ∧ Fill wr b off n 0 (fun _ => undef) ∧ Shp w wr ∧ Mk lo hi w wr) (fun _ i _ => n - (intOf i).toNat)
  case atStart => exact ⟨0, Nat.zero_le _, rfl, by simp, hF, Shp.refl _, Mk.refl _ _ _⟩
  case round =>
    clear hF
    obtain ⟨k, hk, rfl, rfl, hF, hS, hM⟩ := hrel
    by_cases hlt : k < n
    · obtain ⟨hl, hb⟩ := hlb (by omega)
      obtain ⟨v0, hv0, hf0⟩ := hF.any k (by omega)
      go_wp2
      go_roundw
      case rel => exact ⟨k + 1, by omega, by go_num, by go_num, (hF.put _ _), (hS.trans (Shp.set _ _ _)), (hM.putR _ _ hl hb)⟩
      case measure => simp [intOf]; omega
    · obtain rfl : k = n := by omega
      go_wp2
      go_ret
      exact ⟨rfl, hS, hM⟩
/-- An element that may be marked: the head of its row, the row. -/
def pmMessage (w : World) (mid hi b o : Nat) (m : Nat) : Prop := ∃ g, w.cell? ⟨b, o, none⟩ = some (.slice (some ⟨g, 0, none⟩) m m) ∧ (0 < m → mid ≤ g ∧ g < hi) ∧ Fill w g 0 m 0 (fun _ => undef)
theorem pmMessage_of {w : World} {mid hi b o : Nat} {x : TMessage} (h : owMessage w mid hi b o x) : pmMessage w mid hi b o x.data.length := by
  obtain ⟨g, n3, l3, h3, ⟨k0, f0⟩, r, p, q, t⟩ := h
  obtain rfl : x.data.length = n3 := r.1
  refine ⟨g, k0, fun h0 => ?_, by have := r.fill (fun _ => undef); rw [Nat.mul_one] at this; exact this⟩
  obtain ⟨b', off', e, h1, h2, _⟩ := r.2 h0
  simp only [Option.some.injEq, Addr.mk.injEq, and_true] at e
  obtain ⟨rfl, rfl⟩ := e
  omega
theorem pmMessage_call {w w' : World} {mid hi b o m : Nat} (h : pmMessage w mid hi b o m) (hb : b < mid) (s : Shp w w') (k : Mk mid hi w w') : pmMessage w' mid hi b o m := by
  obtain ⟨g, kg, hg, hF⟩ := h
  exact ⟨g, k.cellAtR kg (.inl hb), hg, hF.shp s⟩
set_option maxRecDepth 100000 in
set_option maxHeartbeats 4000000 in
theorem markMessageSN (a : Option Addr) (n c lo hi : Nat) (kz : Int) (zs : List TMessage) (w : World) (h : OwnMessage w lo hi a n zs) (hn : szMessage zs n ≤ 1048576) (h0 : 0 ≤ kz) (h1 : kz ≤ 1073741824) (hh : hi ≤ w.heap.size) :
    Calls Try.prog 68 #[.slice a n c, .int .i64 kz] w fun e w' => e = .returned (.int .i64 (kz + ((sumTo seMessage zs n : Nat) : Int))) ∧ Mk lo hi w w' := by
  have hn0 : n ≤ 1048576 := Nat.le_trans (szMessage_n zs n) hn
  by_cases hz : n = 0
  · subst hz
    go_enter Try.func68, Try.ntmps68
    go_wp2
    refine wp_loop_rounds 1 ?_; rw [rounds_succ]
    go_wp2
    go_ret
    exact ⟨by simp [sumTo], Mk.refl _ _ _⟩
  · obtain ⟨b, off, mid, rfl, hl, hm, hmh, hx⟩ := h.2 (by omega)
    have hP : ∀ i, i < n → pmMessage w mid hi b (off + i) (zs.getD i default).data.length := fun i hi => pmMessage_of (by have := hx i hi; rw [show off + i * EMessage.nc = off + i from by show off + i * 1 = _; rw [Nat.mul_one]] at this; exact this)
    clear hx
    go_enter Try.func68, Try.ntmps68
    go_wp2
    go_loopw [1, 5] (fun q i wr => ∃ k : Nat, k ≤ n ∧ i = .int .i64 k ∧ q = .int .i64 (kz + ((sumTo seMessage zs k : Nat) : Int)) ∧ Hid (∀ i, i < n → pmMessage wr mid hi b (off + i) (zs.getD i default).data.length) ∧ Mk lo hi w wr) (fun _ i _ => n - (intOf i).toNat)
    case atStart => exact ⟨0, Nat.zero_le _, rfl, by simp [sumTo], hP, Mk.refl _ _ _⟩
    case round =>
      clear hP
      obtain ⟨k, hk, rfl, rfl, hP, hM⟩ := hrel
      have hs1 := sumTo_le seMessage zs hk
      obtain ⟨V, hV⟩ : ∃ V, Hid (V = sumTo seMessage zs k) := ⟨_, rfl⟩
      rw [← hV.out] at hs1
      have hsz : sumTo seMessage zs n ≤ 1048576 := by unfold szMessage at hn; omega
      rw [← hV.out]
      by_cases hlt : k < n
      · have hp := hP.out k hlt
        have hT := sumTo_at seMessage zs hlt
        obtain ⟨N3, hN3⟩ : ∃ N, Hid (N = (zs.getD k default).data.length) := ⟨_, rfl⟩
        rw [← hN3.out] at hp
        rw [← hV.out, show seMessage (zs.getD k default) = N3 from hN3.out.symm] at hT
        have hVs := Lib.hid (show sumTo seMessage zs (k + 1) = V + N3 by rw [sumTo, ← hV.out, hN3.out]; rfl)
        obtain ⟨g, kg, hg, hF⟩ := hp
        have hlk : lo ≤ mid := by omega
        go_wp2_with fail
        refine (markByteP g 0 N3 N3 mid hi _ _ hF hg (by omega) (by omega) (by omega)).mono ?_
        rintro e w2 ⟨rfl, hS, m2⟩
        have hM2 := hM.trans (m2.wide (.inr ⟨hlk, Nat.le_refl _⟩))
        have hP2 := Lib.hid (show ∀ i, i < n → pmMessage w2 mid hi b (off + i) (zs.getD i default).data.length from fun i hi => pmMessage_call (hP.out i hi) hm hS m2)
        go_wp2_with fail
        go_roundw
        case rel => exact ⟨k + 1, by omega, by go_num, congrArg (Value.int .i64) (by rw [hVs.out]; omega), hP2, hM2⟩
        case measure => simp [intOf]; omega
      · obtain rfl : k = n := by omega
        go_wp2_with fail
        go_ret
        exact ⟨retI (by rw [hV.out]), hM⟩
end Go.Proofs.Ytdlafigjkefllaa
namespace Go.Proofs.Ytdlafigjkefllaa
open Go.ChangeShapes Go.WideShapes Go.ChangeAt Go.RowKit
set_option linter.unusedVariables false

set_option maxRecDepth 100000 in
set_option maxHeartbeats 4000000 in
theorem markInboxC (x0 : Int) (x1 : Int) (x2 : Int) (a3 : Option Addr) (n3 c3 : Nat) (z3 : List TMessage) (lo  hi : Nat) (k : Int) (w : World) (h3 : OwnMessage w lo hi a3 n3 z3) (hd0 : lo ≤ hi) (hh : hi ≤ w.heap.size) (hk0 : 0 ≤ k) (hk1 : k ≤ 536870912) (hn3 : szMessage z3 n3 ≤ 1048576) :
    Calls Try.prog 33 #[.agg #[.int .i64 x0, .int .i64 x1, .int .i64 x2, .slice a3 n3 c3], .int .i64 k] w fun e w' => ∃ l : Int, (0 ≤ l ∧ l ≤ k + (8388608)) ∧ e = .returned (.int .i64 l) ∧ Mk lo hi w w' := by
  have hs3 : n3 + sumTo seMessage z3 n3 ≤ 1048576 := hn3
  have M0 := Mk.alloc w (Obj.cells #[Value.int .i64 x0, Value.int .i64 x1, Value.int .i64 x2, Value.slice a3 n3 c3] 59)
  have k3 : (w.alloc (Obj.cells #[Value.int .i64 x0, Value.int .i64 x1, Value.int .i64 x2, Value.slice a3 n3 c3] 59)).cell? ⟨w.heap.size, 3, none⟩ = some (.slice a3 n3 c3) := by simp [go_sem]
  have szA : (w.alloc (Obj.cells #[Value.int .i64 x0, Value.int .i64 x1, Value.int .i64 x2, Value.slice a3 n3 c3] 59)).heap.size = w.heap.size + 1 := by rw [World.size_alloc]
  replace h3 := h3.mk M0 (by omega) (.inr (.inr (Nat.le_refl _)))
  have M : Mk lo hi w _ := M0.wide (.inl (Nat.le_refl _))
  go_enter Try.func33, Try.ntmps33
  go_wp2_with fail
  generalize w.alloc (Obj.cells #[Value.int .i64 x0, Value.int .i64 x1, Value.int .i64 x2, Value.slice a3 n3 c3] 59) = u0 at *
  refine (markMessageSN a3 n3 c3 lo hi _ z3 _ h3 hn3 (by omega) (by omega) (by omega)).mono ?_
  rintro e w1 ⟨rfl, m1⟩
  have zt1 := m1.size
  replace M := M.trans (m1.wide (.inr ⟨by omega, by omega⟩))
  go_wp2_with fail
  go_ret
  exact ⟨_, ⟨by omega, by omega⟩, rfl, M⟩
end Go.Proofs.Ytdlafigjkefllaa
namespace Go.Proofs.Ytdlafigjkefllaa
open Go.ChangeShapes Go.WideShapes Go.ChangeAt Go.RowKit
set_option linter.unusedVariables false
def OutNInbox (x0 x1 x2 : Int) (R : List TMessage) (w : World) (e : Ending) (w' : World) : Prop :=
  ∃ A N C, e = .returned (.agg #[.int .i64 x0, .int .i64 x1, .int .i64 x2, .slice A N C]) ∧ ((A = none → C = 0) ∧ (N ≤ C ∧ C ≤ 9223372036854775807)) ∧ OwnN WMessage w' w.heap.size w'.heap.size A N R ∧ Mk0 w w'
set_option maxRecDepth 100000 in
set_option maxHeartbeats 4000000 in
theorem markInboxN (x0 x1 x2 : Int) (a : Option Addr) (n c lo hi : Nat) (k0 : Int) (zs : List TMessage) (w : World) (h : OwnN WMessage w lo hi a n zs) (hB : hi ≤ w.heap.size) (hn : n ≤ 2097152) (ht : sumTo totMessage zs n ≤ 2097152) (h0 : 0 ≤ k0) (h1 : k0 ≤ 1073741824) :
    Calls Try.prog 33 #[.agg #[.int .i64 x0, .int .i64 x1, .int .i64 x2, .slice a n c], .int .i64 k0] w fun e w' => e = .returned (.int .i64 (k0 + ((sumTo totMessage zs n : Nat) : Int))) ∧ OwnN WMessage w' lo hi a n (mkMessage k0 zs n) ∧ Mk lo hi w w' := by
  have kk0 : (w.alloc (Obj.cells #[Value.int .i64 x0, Value.int .i64 x1, Value.int .i64 x2, Value.slice a n c] 59)).cell? ⟨w.heap.size, 0, none⟩ = some (.int .i64 x0) := by simp [go_sem]
  have kk1 : (w.alloc (Obj.cells #[Value.int .i64 x0, Value.int .i64 x1, Value.int .i64 x2, Value.slice a n c] 59)).cell? ⟨w.heap.size, 1, none⟩ = some (.int .i64 x1) := by simp [go_sem]
  have kk2 : (w.alloc (Obj.cells #[Value.int .i64 x0, Value.int .i64 x1, Value.int .i64 x2, Value.slice a n c] 59)).cell? ⟨w.heap.size, 2, none⟩ = some (.int .i64 x2) := by simp [go_sem]
  have kk3 : (w.alloc (Obj.cells #[Value.int .i64 x0, Value.int .i64 x1, Value.int .i64 x2, Value.slice a n c] 59)).cell? ⟨w.heap.size, 3, none⟩ = some (.slice a n c) := by simp [go_sem]
  have M0 : Mk0 w (w.alloc (Obj.cells #[Value.int .i64 x0, Value.int .i64 x1, Value.int .i64 x2, Value.slice a n c] 59)) := Mk.alloc w _
  have y0 := M0.size
  have h2 := h.mk M0 hB (.inr (.inr (Nat.le_refl _)))
  go_enter Try.func33, Try.ntmps33
  go_wp2_with fail
  refine (markMessageW _ _ _ lo hi _ zs _ h2 hn ht h0 (by omega) (by omega)).mono ?_
  rintro e w1 ⟨rfl, o1, m1⟩
  go_wp2_with fail
  go_ret
  exact ⟨rfl, o1, (M0.wide (.inl (Nat.le_refl _))).trans m1⟩

set_option maxRecDepth 100000 in
set_option maxHeartbeats 4000000 in
theorem heldInboxN (x0 x1 x2 : Int) (a : Option Addr) (n c B : Nat) (k0 : Int) (zs : List TMessage) (w : World) (h : HasMessage w B a n (mkMessage k0 zs n)) (hB : B ≤ w.heap.size) (hn : n ≤ 2097152) (ht : sumTo totMessage zs n ≤ 2097152) (h0 : 0 ≤ k0) (h1 : k0 ≤ 1073741824) :
    Calls Try.prog 35 #[.agg #[.int .i64 x0, .int .i64 x1, .int .i64 x2, .slice a n c], .int .i64 k0] w fun e w' => e = .returned (.int .i64 (k0 + ((sumTo totMessage zs n : Nat) : Int))) ∧ Mk0 w w' := by
  have kk0 : (w.alloc (Obj.cells #[Value.int .i64 x0, Value.int .i64 x1, Value.int .i64 x2, Value.slice a n c] 59)).cell? ⟨w.heap.size, 0, none⟩ = some (.int .i64 x0) := by simp [go_sem]
  have kk1 : (w.alloc (Obj.cells #[Value.int .i64 x0, Value.int .i64 x1, Value.int .i64 x2, Value.slice a n c] 59)).cell? ⟨w.heap.size, 1, none⟩ = some (.int .i64 x1) := by simp [go_sem]
  have kk2 : (w.alloc (Obj.cells #[Value.int .i64 x0, Value.int .i64 x1, Value.int .i64 x2, Value.slice a n c] 59)).cell? ⟨w.heap.size, 2, none⟩ = some (.int .i64 x2) := by simp [go_sem]
  have kk3 : (w.alloc (Obj.cells #[Value.int .i64 x0, Value.int .i64 x1, Value.int .i64 x2, Value.slice a n c] 59)).cell? ⟨w.heap.size, 3, none⟩ = some (.slice a n c) := by simp [go_sem]
  have M0 : Mk0 w (w.alloc (Obj.cells #[Value.int .i64 x0, Value.int .i64 x1, Value.int .i64 x2, Value.slice a n c] 59)) := Mk.alloc w _
  have y0 := M0.size
  have h2 := h.mk M0 hB (.inr (Nat.le_refl _))
  go_enter Try.func35, Try.ntmps35
  go_wp2_with fail
  refine (heldMessageW _ _ _ _ _ zs _ h2 hn ht h0 (by omega)).mono ?_
  rintro e w' ⟨rfl, rfl⟩
  go_wp2_with fail
  go_ret
  exact ⟨rfl, M0⟩

theorem totMessage_sz (zs : List TMessage) (n : Nat) : sumTo totMessage zs n ≤ 5 * szMessage zs n := by
  have : ∀ k, sumTo totMessage zs k ≤ 5 * (k + sumTo seMessage zs k) := by
    intro k
    induction k with
    | zero => simp [sumTo]
    | succ k ih => rw [sumTo, sumTo]; have : totMessage (zs.getD k default) ≤ 5 + 5 * seMessage (zs.getD k default) := by unfold totMessage seMessage; omega
                   omega
  exact this n
end Go.Proofs.Ytdlafigjkefllaa
