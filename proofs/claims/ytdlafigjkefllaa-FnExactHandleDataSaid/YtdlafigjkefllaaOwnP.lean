
/- Hop: rows of them: the laws' marks, by content, and their check. -/
import Derived.Test.YtdlafigjkefllaaSHop
import Derived.Test.YtdlafigjkefllaaAppR
namespace Go.Proofs.Ytdlafigjkefllaa
open Go.ChangeShapes Go.WideShapes Go.ChangeAt Go.RowKit
set_option linter.unusedVariables false
def mklHop (k0 : Int) (n : Nat) : List THop := (List.range n).map fun i => ⟨k0 + 5 * ((i : Nat) : Int), k0 + 5 * ((i : Nat) : Int) + 1, k0 + 5 * ((i : Nat) : Int) + 2, k0 + 5 * ((i : Nat) : Int) + 3, k0 + 5 * ((i : Nat) : Int) + 4⟩
theorem mklHop_len (k0 : Int) (n : Nat) : (mklHop k0 n).length = n := by simp [mklHop]
theorem mklHop_at (k0 : Int) {n i : Nat} (h : i < n) : (mklHop k0 n).getD i default = ⟨k0 + 5 * ((i : Nat) : Int), k0 + 5 * ((i : Nat) : Int) + 1, k0 + 5 * ((i : Nat) : Int) + 2, k0 + 5 * ((i : Nat) : Int) + 3, k0 + 5 * ((i : Nat) : Int) + 4⟩ := by simp [mklHop, List.getD_eq_getElem?_getD, h]
theorem fill_pHop {w : World} {b off n i : Nat} {f : Nat → Value} (h : Fill w b off n i f) (hi : i < n) {p : Nat} (hp : p = off + i) {u : Value} (hu : u = f i) : Fill (w.setCell ⟨b, p, none⟩ u) b off n (i + 1) f := by subst hp; exact h.set_ hi hu
set_option maxRecDepth 100000 in
set_option maxHeartbeats 1600000 in
theorem markHopM (a : Option Addr) (n c lo hi : Nat) (k0 : Int) (zs : List THop) (w : World) (h : OwnHop w lo hi a n zs) (hn : n ≤ 2097152) (h0 : 0 ≤ k0) (h1 : k0 ≤ 1099511627776) :
    Calls Try.prog 43 #[.slice a n c, .int .i64 k0] w fun e w' => e = .returned (.int .i64 (k0 + 5 * n)) ∧ OwnHop w' lo hi a n (mklHop k0 n) ∧ Mk lo hi w w' := by
  by_cases hz : n = 0
  · subst hz
    go_enter Try.func43, Try.ntmps43
    go_wp2
    refine wp_loop_rounds 1 ?_; rw [rounds_succ]
    go_wp2
    go_ret
    exact ⟨by simp, OwnR.none_ _ _ _ _, Mk.refl _ _ _⟩
  · obtain ⟨b, off, rfl, hl, hb, _⟩ := h.2 (by omega)
    have hF := h.fill (flat 5 THop.cell (mklHop k0 n))
    go_enter Try.func43, Try.ntmps43
    go_wp2
    go_loopw [1, 5] (fun q i wr => ∃ k : Nat, k ≤ n ∧ i = .int .i64 k ∧ q = .int .i64 (k0 + 5 * k) ∧ Fill wr b off (n * 5) (k * 5) (flat 5 THop.cell (mklHop k0 n)) ∧ Mk lo hi w wr) (fun _ i _ => n - (intOf i).toNat)
    case atStart => exact ⟨0, Nat.zero_le _, rfl, by simp, by simpa using hF, Mk.refl _ _ _⟩
    case round =>
      clear hF
      obtain ⟨k, hk, rfl, rfl, hF, hM⟩ := hrel
      by_cases hlt : k < n
      · obtain ⟨v0, hv0, hf0⟩ := hF.any (k * 5) (by omega)
        obtain ⟨v1, hv1, hf1⟩ := hF.any (k * 5 + 1) (by omega)
        rw [← Nat.add_assoc] at hv1 hf1
        obtain ⟨v2, hv2, hf2⟩ := hF.any (k * 5 + 2) (by omega)
        rw [← Nat.add_assoc] at hv2 hf2
        obtain ⟨v3, hv3, hf3⟩ := hF.any (k * 5 + 3) (by omega)
        rw [← Nat.add_assoc] at hv3 hf3
        obtain ⟨v4, hv4, hf4⟩ := hF.any (k * 5 + 4) (by omega)
        rw [← Nat.add_assoc] at hv4 hf4
        have e0 := Lib.hid (show ∀ z : Int, z = k0 + 5 * (k : Int) → Value.int .i64 z = flat 5 THop.cell (mklHop k0 n) (k * 5 + 0) from fun z hz => by rw [flat_at _ k 0 (by omega), mklHop_at k0 hlt, hz]; rfl)
        have e1 := Lib.hid (show ∀ z : Int, z = k0 + 5 * (k : Int) + 1 → Value.int .i64 z = flat 5 THop.cell (mklHop k0 n) (k * 5 + 1) from fun z hz => by rw [flat_at _ k 1 (by omega), mklHop_at k0 hlt, hz]; rfl)
        have e2 := Lib.hid (show ∀ z : Int, z = k0 + 5 * (k : Int) + 2 → Value.int .i64 z = flat 5 THop.cell (mklHop k0 n) (k * 5 + 2) from fun z hz => by rw [flat_at _ k 2 (by omega), mklHop_at k0 hlt, hz]; rfl)
        have e3 := Lib.hid (show ∀ z : Int, z = k0 + 5 * (k : Int) + 3 → Value.int .i64 z = flat 5 THop.cell (mklHop k0 n) (k * 5 + 3) from fun z hz => by rw [flat_at _ k 3 (by omega), mklHop_at k0 hlt, hz]; rfl)
        have e4 := Lib.hid (show ∀ z : Int, z = k0 + 5 * (k : Int) + 4 → Value.int .i64 z = flat 5 THop.cell (mklHop k0 n) (k * 5 + 4) from fun z hz => by rw [flat_at _ k 4 (by omega), mklHop_at k0 hlt, hz]; rfl)
        go_wp2
        go_roundw
        case rel => exact ⟨k + 1, by omega, by go_num, by go_num, (Nat.succ_mul k 5).symm ▸ (fill_pHop (fill_pHop (fill_pHop (fill_pHop (fill_pHop hF (by omega) (by omega) (e0.out _ (by first | rfl | go_num | omega))) (by omega) (by omega) (e1.out _ (by first | rfl | go_num | omega))) (by omega) (by omega) (e2.out _ (by first | rfl | go_num | omega))) (by omega) (by omega) (e3.out _ (by first | rfl | go_num | omega))) (by omega) (by omega) (e4.out _ (by first | rfl | go_num | omega))), (((((hM.putR _ _ hl hb).putR _ _ hl hb).putR _ _ hl hb).putR _ _ hl hb).putR _ _ hl hb)⟩
        case measure => simp [intOf]; omega
      · obtain rfl : k = n := by omega
        go_wp2
        go_ret
        exact ⟨rfl, hF.ownR (mklHop_len _ _) (fun i hi j hj => flat_at _ i j hj) hl hb (by omega), hM⟩

set_option maxRecDepth 100000 in
set_option maxHeartbeats 1600000 in
theorem heldHopM (a : Option Addr) (n c B : Nat) (k0 : Int) (w : World) (h : HasHop w B a n (mklHop k0 n)) (hn : n ≤ 2097152) (h0 : 0 ≤ k0) (h1 : k0 ≤ 1099511627776) :
    Calls Try.prog 44 #[.slice a n c, .int .i64 k0] w fun e w' => e = .returned (.int .i64 (k0 + 5 * n)) ∧ w = w' := by
  go_enter Try.func44, Try.ntmps44
  go_wp2
  go_loop [1, 4, 5] (fun q r i => r = .int .i64 0 ∧ ∃ k : Nat, k ≤ n ∧ i = .int .i64 k ∧ q = .int .i64 (k0 + 5 * k)) (fun _ _ i => n - (intOf i).toNat)
  case atStart => exact ⟨rfl, 0, Nat.zero_le _, rfl, by simp⟩
  case round =>
    obtain ⟨rfl, k, hk, rfl, rfl⟩ := hrel
    by_cases hlt : k < n
    · obtain ⟨b, off, x, rfl, hb, hx, c0, c1, c2, c3, c4⟩ := HasHop.at _ _ _ _ _ _ h hlt
      obtain rfl := hx.out.trans (mklHop_at k0 hlt)
      simp only at c0 c1 c2 c3 c4
      go_wp2
      go_round
      case rel => exact ⟨rfl, k + 1, by omega, by go_num, by go_num⟩
      case measure => simp [intOf]; omega
    · obtain rfl : k = n := by omega
      go_wp2
      go_ret
      exact ⟨rfl, rfl⟩
end Go.Proofs.Ytdlafigjkefllaa
namespace Go.Proofs.Ytdlafigjkefllaa
open Go Go.RowKit
set_option linter.unusedVariables false
theorem grown_cell {w w' : World} {row : Option Nat} {b o : Nat} {v : Value} (h : w.cell? ⟨b, o, none⟩ = some v) (hg : w.grownBy w' row) (hr : ∀ q, row = some q → q ≠ b) : w'.cell? ⟨b, o, none⟩ = some v := by
  have hb : b < w.heap.size := World.block_lt_of_cell? _ _ h
  have hk : w'.heap[b]? = w.heap[b]? := hg.block b hb (fun e => hr b e.symm rfl)
  exact (World.cell?_of_block (w := w) hk).trans h
theorem grown_frz {w w' : World} {row : Option Nat} {b o : Nat} (hf : w.frozen? ⟨b, o, none⟩ = false) (hb : b < w.heap.size) (hg : w.grownBy w' row) (hr : ∀ q, row = some q → q ≠ b) : w'.frozen? ⟨b, o, none⟩ = false := by
  have hk : w'.heap[b]? = w.heap[b]? := hg.block b hb (fun e => hr b e.symm rfl)
  exact (World.frozen?_of_block (w := w) hk).trans hf
theorem own_put {w : World} {lo nc n : Nat} {e : TypeId} {v : Value} {xs : List Value} (h : w.ownsRow lo e nc v n xs) (p : Addr) (u : Value) (hp : p.block < lo) : (w.setCell p u).ownsRow lo e nc v n xs :=
  h.kept (row := some p.block) (grownBy_setCell w p u) (by
    cases hv : v.ownBlock with
    | none => exact .inl rfl
    | some q => exact .inr (fun e => by injection e with e; have := (h.lt q hv).1; omega))
theorem own_nilR (w : World) (lo : Nat) (e : TypeId) (nc : Nat) : w.ownsRow lo e nc (.slice none 0 0) 0 [] := ⟨by simp, .inl ⟨rfl, rfl⟩⟩
end Go.Proofs.Ytdlafigjkefllaa
